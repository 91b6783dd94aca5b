import PyProof.Rows.All
import Wide.All
import OpenK.AllK
import Wide.FinOn
import Lean
import PyProof.EqAt
import PyProof.EqKinds
import PyProof.TupleCall
import PyProof.NeKinds
import PyProof.IsiSeqPairs
import PyProof.IsiNone
import KE.KSortTup
import KE.KRevSl
import KE.KIntText
import KE.KIsAll
import PyProof.ExcArgsOwn
import PyProof.ExcAttrAll.ValueError
import PyProof.NsDelKeeps
import PyProof.InstStoreFacts
import PyProof.Conv_int_bool
import PySem.Challenge.RW_roofpost_k26_webs_refused
set_option Elab.async false
set_option linter.all false
open Array (getD length_toList toList)
open Array.Perm (trans)
open Bool (and_eq_true not_eq_true' or_eq_true)
open False (elim)
open ForInStep (yield)
open Int (emod_nonneg)
open List (all_cons all_eq_true append_nil drop_eq_getElem_cons drop_succ_cons filterMap_cons filter_append forIn_cons getD_eq_getElem?_getD getElem?_append_left getElem?_drop getElem?_eq_getElem getElem?_map getElem?_set_ne getElem_mem getElem_range length_append length_cons length_drop length_map length_nil length_range length_replicate length_set length_take map map_cons map_map mem_append mem_append_left mem_append_right mem_cons mem_cons_of_mem mem_cons_self mem_filter mem_map mem_of_getElem? mem_range mem_singleton nil_append nodup_cons nodup_nil not_mem_nil of_mem_zip pairwise_cons range replicate set_set size_toArray)
open List.Pairwise (filter)
open Nat (le_add_right le_of_lt le_refl le_trans lt_irrefl lt_of_lt_of_le ne_of_gt ne_of_lt zero_le)
open Ne (symm)
open Option (bind_eq_some_iff getD_none map_eq_some_iff)
open Or (inr)
open Ordering (swap)
open PyProof.Rows (boot_max boot_min)
open PySem.Builtin.List (listFitsIndex listTooLong)
open PySem.Builtin.Range (rangeSize)
open PySem.Builtin.Slice (sliceAdjust sliceApplied slicePlaces)
open PySem.Builtin.SmallTypes (nextOf stopIteration)
open PySem.Builtin.Tuple (tupleExact)
open PySem.Code (isFrame)
open PySem.Data (fields seq)
open PySem.F (args_tuple_add_2 attrBase_ValueError entry_tuple_add excBase_ValueError plainAttrs_list slot_gs_get slot_tuple_add store_ValueError)
open PySem.Heap (get?_none_of_le get?_push_of_some get?_push_size get?_update_other lt_size size_push)
open PySem.Obj (mapSeq)
open PySem.PassesOwn (never)
open PySem.SeqAt (ne_of_list_tuple)
open PySem.Str (ofString)
open PySem.Value (builtin)
open PySem.W (codeIn fnOf instObj isFn methodObj)
open Sum (inl)
set_option maxRecDepth 100000
noncomputable section
namespace L2
open PySem PySem.Spec PyProof.Rows
abbrev Key:=Sum Int Str
noncomputable def keyIs:Key->Value->Bool
 | .inl k,v=>Value.isInt k v
 | .inr x,v=>Value.isStrOf x v
noncomputable def keyH (w:World):Key->Int
 | .inl k=>hashInt k
 | .inr x=>hashStr w x
theorem nG:∀ {k:Key}{v:Value},keyIs k v=true->(∃ i t,k=inl i/\v=Value.int i t)\/(∃ x t,k=Sum.inr x/\v=Value.str x t)
 | .inl i,v,h=>by
  obtain ⟨t,e⟩:=Value.isInt_shape (k:=i) (v:=v) h
  exact .inl ⟨i,t,rfl,e⟩
 | .inr x,v,h=>by
  obtain ⟨t,e⟩:=Value.isStrOf_shape (x:=x) (v:=v) h
  exact .inr ⟨x,t,rfl,e⟩
theorem yn (a b:Int):decide ((inl a:Key)=inl b)=(a == b):=by
 by_cases e:a=b
 ·subst e;simp
 ·have h:¬ (inl a:Key)=inl b:=λq=>e (inl.inj q)
  rw [decide_eq_false h]
  exact (beq_eq_false_iff_ne.mpr e).symm
theorem BG (a b:Str):decide ((Sum.inr a:Key)=Sum.inr b)=decide (a=b):=by
 by_cases e:a=b
 ·subst e;simp
 ·have h:¬ (Sum.inr a:Key)=Sum.inr b:=λq=>e (Sum.inr.inj q)
  rw [decide_eq_false h,decide_eq_false e]
theorem yI (a:Int) (b:Str):decide ((inl a:Key)=Sum.inr b)=false:=decide_eq_false (λq=>nomatch q)
theorem Co (a:Str) (b:Int):decide ((Sum.inr a:Key)=inl b)=false:=decide_eq_false (λq=>nomatch q)
noncomputable def mixKind (prog:Program) (w:World):PySem.KeyKind prog w Key where
 is:=keyIs
 hash:=keyH w
 inj:=λv a b ha hb=>by
  rcases nG ha with ⟨i,t,rfl,rfl⟩ | ⟨x,t,rfl,rfl⟩
  ·rcases nG hb with ⟨j,u,rfl,e⟩ | ⟨y,u,rfl,e⟩
   ·injection e with e1 _;rw [e1]
   ·exact nomatch e
  ·rcases nG hb with ⟨j,u,rfl,e⟩ | ⟨y,u,rfl,e⟩
   ·exact nomatch e
   ·injection e with e1 _;rw [e1]
 byValue:=λk v h=>by
  rcases nG h with ⟨i,t,rfl,rfl⟩ | ⟨x,t,rfl,rfl⟩<;>rfl
 pyHash:=λhv h=>by
  rcases nG hv with ⟨i,t,rfl,rfl⟩ | ⟨x,t,rfl,rfl⟩
  ·exact wpAny_pyHash_int h
  ·exact wpAny_pyHash_str h
 eqBool:=λhu hv h=>by
  rcases nG hu with ⟨i,t,rfl,rfl⟩ | ⟨x,t,rfl,rfl⟩
  ·rcases nG hv with ⟨j,u,rfl,rfl⟩ | ⟨y,u,rfl,rfl⟩
   ·rw [yn] at h;exact wpAny_eqBool_int h
   ·rw [yI] at h;exact SeqAt.EqAt.int_str i t y u _ _ _ _ h
  ·rcases nG hv with ⟨j,u,rfl,rfl⟩ | ⟨y,u,rfl,rfl⟩
   ·rw [Co] at h;exact SeqAt.EqAt.str_int x t j u _ _ _ _ h
   ·rw [BG] at h;exact wpAny_eqBool_str h
 «strs»:=λk x t v h=>by
  rcases nG h with ⟨i,u,rfl,e⟩ | ⟨y,u,rfl,e⟩
  ·exact nomatch e
  ·injection e with e1 _
   subst e1
   cases v<;>rfl
inductive V where
 | non | bl (b:Bool) | int (i:Int) | str (x:Str) | byt (b:Array UInt8) | flt (b:UInt64) | ref (a:Addr) | ty (n:String)
 deriving DecidableEq
def RelV:V->Value->Prop
 | .non,u=>u=Value.none
 | .bl b,u=>u=Value.bool b
 | .int i,u=>∃ t,u=Value.int i t
 | .str x,u=>∃ t,u=Value.str x t
 | .byt b,u=>∃ t,u=Value.bytes b t
 | .flt b,u=>∃ t,u=Value.float b t
 | .ref a,u=>u=Value.ref a
 | .ty n,u=>u=Value.type n
abbrev Vals:List V->List Value->Prop:=Paired RelV
theorem Vals.length {xs:List V}{us:List Value} (r:Vals xs us):xs.length=us.length:=Paired.length r
theorem Vals.get:∀ {xs:List V}{us:List Value}{i:Nat}{x:V},Vals xs us->xs[i]?=some x->∃ u,us[i]?=some u/\RelV x u
 | _,_,_,_,.nil,e=>by simp at e
 | _,_,0,_,.cons r _,e=>by simp at e;subst e;exact ⟨_,rfl,r⟩
 | _,_,i+1,x,.cons _ t,e=>by
  obtain ⟨u,h1,h2⟩:=Vals.get (i:=i) (x:=x) t (by simpa using e)
  exact ⟨u,by simpa using h1,h2⟩
theorem Vals.set {x:V}{u:Value} (r:RelV x u):∀ {xs:List V}{us:List Value} (i:Nat),Vals xs us->Vals (xs.set i x) (us.set i u)
 | _,_,_,.nil=>.nil
 | _,_,0,.cons _ t=>.cons r t
 | _,_,i+1,.cons q t=>.cons q (Vals.set r i t)
theorem Vals.append:∀ {xs ys:List V}{us ws:List Value},Vals xs us->Vals ys ws->Vals (xs++ys) (us++ws)
 | _,_,_,_,.nil,s=>s
 | _,_,_,_,.cons r t,s=>.cons r (Vals.append t s)
theorem Vals.take:∀ {xs:List V}{us:List Value} (n:Nat),Vals xs us->Vals (xs.take n) (us.take n)
 | _,_,0,_=>.nil
 | _,_,_+1,.nil=>.nil
 | _,_,n+1,.cons r t=>.cons r (Vals.take n t)
theorem Vals.drop:∀ {xs:List V}{us:List Value} (n:Nat),Vals xs us->Vals (xs.drop n) (us.drop n)
 | _,_,0,r=>r
 | _,_,_+1,.nil=>.nil
 | _,_,n+1,.cons _ t=>Vals.drop n t
def RelO:Option V->Option Value->Prop
 | some v,some u=>RelV v u
 | none,none=>True
 | _,_=>False
def KV {κ:Type}:List (κ×V)->List (κ×Value)->Prop:=Paired λ(p:κ×V) (q:κ×Value)=>p.1=q.1/\RelV p.2 q.2
noncomputable def kV:Key->V
 | .inl i=>.int i
 | .inr x=>.str x
inductive HO where
 | lst (xs:List V)
 | tup (xs:List V)
 | dK (aC:List (Key×V)) | dT (aC:List (List Key×V))
 | set (S:Int->Bool) (n:Nat)
 | ins (C dx:Addr) (fs:List (Str×V))
 | own (x:Addr)
 | xd (fs:List (Str×V))
 | met (f x:Addr)
 | rng (lo hi:Int)
 | frz (o:Obj) (u:HO)
 | tbl (ps:Array Value)
 | ext (φ:Heap->Prop)
abbrev Hp:=Addr->Option HO
noncomputable def upd (H:Hp) (a:Addr) (o:HO):Hp:=λb=>if b=a then some o else H b
theorem mq {H:Hp}{a:Addr}{o:HO}:upd H a o a=some o:=by unfold upd;rw [if_pos rfl]
theorem ma {H:Hp}{a b:Addr}{o:HO} (h:b≠a):upd H a o b=H b:=by unfold upd;rw [if_neg h]
theorem A9 {H:Hp}{a:Addr}{o u:HO}:upd (upd H a o) a u=upd H a u:=by
 funext b;unfold upd;split<;>rfl
theorem nu {H:Hp}{a b:Addr}{o:HO} (h:H a=some o) (h':H b=none):a≠b:=by
 intro e;subst e;rw [h] at h';cases h'
section
variable (P:Program) (w:World)
def ObjOk (H:Hp) (h:Heap) (a:Addr):HO->Prop
 | .lst xs=>xs.length<=sizeLine/\∃ (ae:List Value) (n:Nat),Vals xs ae/\h.get? a=some { cls:=.type "list", data:=.seq ae.toArray n }
 | .tup xs=>xs.length<=sizeLine/\∃ ae:List Value,Vals xs ae/\IsTup h a ae.toArray
 | .dK aC=>aC.length<=sizeLine/\(a == sysModules)=false/\∃ vs,KV aC vs/\h.DictOf (mixKind P w) a vs
 | .dT aC=>aC.length<=sizeLine/\(a == sysModules)=false/\∃ xs:List (List Key×Addr×Value),
   Paired (λ(p:List Key×V) (q:List Key×Addr×Value)=>p.1=q.1/\H q.2.1=some (.tup (p.1.map kV))/\RelV p.2 q.2.2) aC xs ∧
   ∃ o es ep,h.get? a=some o/\o.ExactDict/\o.data=.dict es ep/\es.toList=xs.map (entryOfKey (tupleKind (mixKind P w)))/\(xs.map (·.1)).Nodup
 | .set S n=>h.SetOf (intKind P w) a S n
 | .ins C dx fs=>H dx=some (.own a)/\fs.length<=1000/\dx≠a/\h.get? a=some (instObj C dx) ∧
   ∃ mA,h.Ns1 dx mA/\(∀ f,RelO (fs.lookup f) (mA f))/\PySem.Within mA (fs.map (·.1))
 | .own _=>∃ o,h.get? a=some o
 | .xd fs=>∃ mA,h.Ns1 a mA/\∀ f,RelO (fs.lookup f) (mA f)
 | .rng lo hi=>∃ t u v,h.get? a=some { cls:=.type "range", data:=.fields #[.int lo t,.int hi u,.int 1 v] }
 | .frz o u=>h.get? a=some o/\ObjOk H h a u
 | .tbl ps=>h.get? a=some { cls:=.none,data:=.fields ps }
 | .met f x=>h.get? a=some (methodObj (.ref f) (.ref x))
 | .ext φ=>φ h/\(∃ o,h.get? a=some o)/\∀ h1 h2:Heap,φ h1->(∀ o,h1.get? a=some o->h2.get? a=some o)->φ h2
def HOk (H:Hp) (h:Heap):Prop:=∀ a o,H a=some o->ObjOk P w H h a o
end
section
variable {P:Program}{w:World}{H H':Hp}{h h':Heap}{a:Addr}{o:HO}
theorem ObjOk.lt (x:ObjOk P w H h a o):a < h.objs.size:=by
 cases o with
 | lst xs=>obtain ⟨_,_,_,_,e⟩:=x;exact lt_size e
 | tup xs=>obtain ⟨_,_,_,p⟩:=x;exact p.lt
 | dK aC=>obtain ⟨_,_,_,_,o,_,_,e,_⟩:=x;exact lt_size e
 | dT aC=>obtain ⟨_,_,_,_,o,_,_,e,_⟩:=x;exact lt_size e
 | set S n=>obtain ⟨o,_,_,_,e,_⟩:=x;exact lt_size e
 | ins C dx fs=>obtain ⟨_,_,_,e,_⟩:=x;exact lt_size e
 | own y=>obtain ⟨_,e⟩:=x;exact lt_size e
 | xd fs=>obtain ⟨_,⟨_,_,_,e,_⟩,_⟩:=x;exact lt_size e
 | rng lo hi=>obtain ⟨_,_,_,e⟩:=x;exact lt_size e
 | frz ob u=>obtain ⟨e,_⟩:=x;exact lt_size e
 | tbl ps=>exact lt_size (show h.get? a=some _ from x)
 | met f y=>exact lt_size (show h.get? a=some _ from x)
 | ext φ=>obtain ⟨_,⟨_,e⟩,_⟩:=x;exact lt_size e
theorem Paired.mapP {α Y:Type}{F G:α->Y->Prop}:∀ {l₁:List α}{l₂:List Y},Paired F l₁ l₂->(∀ a b,F a b->G a b)->Paired G l₁ l₂
 | _,_,.nil,_=>.nil
 | _,_,.cons r t,f=>.cons (f _ _ r) (Paired.mapP t f)
theorem ObjOk.stay (x:ObjOk P w H h a o) (k:∀ b u,(b=a\/H b=some (.own a))->h.get? b=some u->h'.get? b=some u)
  (ho:∀ b,H b=some (.own a)->H' b=some (.own a)) (ht:∀ b xs,H b=some (.tup xs)->H' b=some (.tup xs)):ObjOk P w H' h' a o:=by
 induction o with
 | lst xs=>obtain ⟨z,ae,n,r,e⟩:=x;exact ⟨z,ae,n,r,k _ _ (.inl rfl) e⟩
 | tup xs=>obtain ⟨z,ae,r,ob,e,c⟩:=x;exact ⟨z,ae,r,ob,k _ _ (.inl rfl) e,c⟩
 | dK aC=>obtain ⟨z,y,vs,r,ob,es,ep,e,c⟩:=x;exact ⟨z,y,vs,r,ob,es,ep,k _ _ (.inl rfl) e,c⟩
 | dT aC =>
  obtain ⟨z,y,xs,r,ob,es,ep,e,c⟩:=x
  exact ⟨z,y,xs,Paired.mapP r λp q z=>⟨z.1,ht _ _ z.2.1,z.2.2⟩,ob,es,ep,k _ _ (.inl rfl) e,c⟩
 | set S n=>obtain ⟨ob,es,ep,t,e,c⟩:=x;exact ⟨ob,es,ep,t,k _ _ (.inl rfl) e,c⟩
 | ins C dx fs =>
  obtain ⟨d,z,ne,e,mA,⟨od,es,ep,e2,c⟩,r⟩:=x
  exact ⟨ho _ d,z,ne,k _ _ (.inl rfl) e,mA,⟨od,es,ep,k _ _ (.inr d) e2,c⟩,r⟩
 | own y=>obtain ⟨ob,e⟩:=x;exact ⟨ob,k _ _ (.inl rfl) e⟩
 | xd fs=>obtain ⟨mA,⟨od,es,ep,e,c⟩,r⟩:=x;exact ⟨mA,⟨od,es,ep,k _ _ (.inl rfl) e,c⟩,r⟩
 | rng lo hi=>obtain ⟨t,u,v,e⟩:=x;exact ⟨t,u,v,k _ _ (.inl rfl) e⟩
 | frz ob u ih=>obtain ⟨e,q⟩:=x;exact ⟨k _ _ (.inl rfl) e,ih q⟩
 | tbl ps =>
  have e:h.get? a=some { cls:=.none,data:=.fields ps }:=x
  show h'.get? a=some { cls:=.none,data:=.fields ps }
  exact k a _ (.inl rfl) e
 | met f y =>
  have e:h.get? a=some (methodObj (.ref f) (.ref y)):=x
  show h'.get? a=some (methodObj (.ref f) (.ref y))
  exact k a _ (.inl rfl) e
 | ext φ=>obtain ⟨p,⟨o,e⟩,st⟩:=x;exact ⟨st _ _ p λo q=>k _ _ (.inl rfl) q,⟨o,k _ _ (.inl rfl) e⟩,st⟩
theorem HOk.lt (x:HOk P w H h) (e:H a=some o):a < h.objs.size:=(x a o e).lt
theorem HOk.fresh (x:HOk P w H h) (e:h.objs.size<=a):H a=none:=by
 cases q:H a with
 | none=>rfl
 | some u=>exact absurd (lt_of_lt_of_le (x.lt q) e) (lt_irrefl _)
theorem HOk.kept (x:HOk P w H h) (k:∀ b u,h.get? b=some u->h'.get? b=some u):HOk P w H h':=λa o e =>
 (x a o e).stay (λb u _ q=>k b u q) (λ_ q=>q) λ_ _ q=>q
theorem HOk.laid (x:HOk P w H h) (k:∀ b u,h.get? b=some u->h'.get? b=some u) (hp:h.objs.size<=a) (new:ObjOk P w (upd H a o) h' a o):HOk P w (upd H a o) h':=λb u e=>by
 have hn:=x.fresh hp
 by_cases hb:b=a
 ·subst hb;rw [mq] at e;cases e;exact new
 ·rw [ma hb] at e
  exact (x b u e).stay (λc v _ q=>k c v q) (λc q=>by rw [ma (nu q hn)];exact q) λc xs q=>by rw [ma (nu q hn)];exact q
end
def Rd (H:Hp) (a:Addr) (u:HO):Prop:=H a=some u\/∃ o,H a=some (.frz o u)
theorem Rd.ok {P:Program}{w:World}{H:Hp}{h:Heap}{a:Addr}{u:HO} (r:Rd H a u) (x:HOk P w H h):ObjOk P w H h a u:=by
 rcases r with r | ⟨o,r⟩
 ·exact x a u r
 ·obtain ⟨_,q⟩:=x a _ r
  exact q
def Mut:Option HO->Prop
 | some (.lst _)=>True
 | some (.dK _)=>True
 | some (.dT _)=>True
 | some (.set _ _)=>True
 | some (.ins _ _ _)=>True
 | some (.ext _)=>True
 | _=>False
section
variable {P:Program}{w:World}{H:Hp}{h h':Heap}{x e:Addr}{o':HO}
theorem HOk.write (ok:HOk P w H h) (mu:Mut (H x)) (he:e=x\/H e=some (.own x)) (k:∀ b u,b≠e->h.get? b=some u->h'.get? b=some u) (c9:∃ u,h'.get? e=some u)
  (new:ObjOk P w (upd H x o') h' x o'):HOk P w (upd H x o') h':=λb u q=>by
 have fz:∀ c y,H c=some (.own y)->c≠x:=λc y r z=>by subst z;rw [r] at mu;exact mu
 have hZ:∀ c xs,H c=some (.tup xs)->c≠x:=λc xs r z=>by subst z;rw [r] at mu;exact mu
 by_cases hb:b=x
 ·subst hb;rw [mq] at q;cases q;exact new
 ·rw [ma hb] at q
  by_cases hbe:b=e
  ·have q':H b=some (.own x):=by
    rcases he with z | z
    ·exact absurd (hbe.trans z) hb
    ·rw [hbe];exact z
   rw [q] at q';cases q'
   obtain ⟨v,hv⟩:=c9
   exact ⟨v,by rw [hbe];exact hv⟩
  ·refine (ok b u q).stay (λc v hc r=>k c v ?_ r) (λc r=>by rw [ma (fz c b r)];exact r) λc xs r=>by rw [ma (hZ c xs r)];exact r
   rcases hc with rfl | hc
   ·exact hbe
   ·rintro rfl
    rcases he with z | z
    ·exact fz c b hc z
    ·rw [hc] at z;cases z;exact hb rfl
end
structure Un (fs ex:List Addr) (H H':Hp) (h h':Heap):Prop where
 keep:∀ b o,h.get? b=some o->H b=none->b∉fs->b∉ex->h'.get? b=some o
 slot:∀ b o,h.get? b=some o->H b=none->b∈fs->b∉ex->∃ sl,h'.get? b=some { o with slots:=sl }
 free:∀ b o,h.get? b=some o->H b=none->b∉ex->H' b=none
 there:∀ b o,h.get? b=some o->b∉ex->∃ o',h'.get? b=some o'
 tups:∀ b xs,H b=some (.tup xs)->H' b=some (.tup xs)
 frzs:∀ b o u,H b=some (.frz o u)->H' b=some (.frz o u)
 tbls:∀ b ps,H b=some (.tbl ps)->∃ more,H' b=some (.tbl (ps++more))
section
variable {fs jA ex lv:List Addr}{H H1 H2:Hp}{h h1 h2 h':Heap}{a x e:Addr}{o:HO}
theorem Un.any (u:Un fs ex H H1 h h1){b:Addr}{ob:Obj} (q:h.get? b=some ob) (n:H b=none) (hx:b∉ex):∃ sl,h1.get? b=some { ob with slots:=sl }:=by
 by_cases hb:b∈fs
 ·exact u.slot b ob q n hb hx
 ·exact ⟨ob.slots,u.keep b ob q n hb hx⟩
theorem Un.kept (k:∀ b u,h.get? b=some u->h'.get? b=some u):Un fs ex H H h h' :=
 ⟨λb ob q _ _ _=>k b ob q,λb ob q _ _ _=>⟨ob.slots,k b ob q⟩,λ_ _ _ n _=>n,λb ob q _=>⟨ob,k b ob q⟩,λ_ _ q=>q,λ_ _ _ q=>q,λ_ ps q=>⟨#[],by rw [q];simp⟩⟩
theorem Un.refl:Un fs ex H H h h:=Un.kept λ_ _ q=>q
theorem Un.laid (k:∀ b u,h.get? b=some u->h'.get? b=some u) (hp:h.objs.size<=a) (hn:H a=none):Un fs ex H (upd H a o) h h' where
 keep:=λb u q _ _ _=>k b u q
 slot:=λb u q _ _ _=>⟨u.slots,k b u q⟩
 free:=λb u q n _=>by rw [ma (ne_of_lt (lt_of_lt_of_le (lt_size q) hp))];exact n
 there:=λb u q _=>⟨u,k b u q⟩
 tups:=λb xs q=>by rw [ma (nu q hn)];exact q
 frzs:=λb u xs q=>by rw [ma (nu q hn)];exact q
 tbls:=λb ps q=>⟨#[],by rw [ma (nu q hn),q];simp⟩
theorem Un.write (mu:Mut (H x)) (he:e=x\/H e=some (.own x)) (k:∀ b u,b≠e->h.get? b=some u->h'.get? b=some u) (c9:∃ u,h'.get? e=some u):Un fs ex H (upd H x o) h h':=by
 have hx:∀ b,H b=none->b≠x:=λb n z=>by subst z;rw [n] at mu;exact mu
 have hb:∀ b,H b=none->b≠e:=λb n z=>by
  subst z
  rcases he with r | r
  ·exact hx b n r
  ·rw [n] at r;cases r
 have hm:∀ b u,H b=some u->¬ Mut (some u)->b≠x:=λb u q nm z=>by subst z;rw [q] at mu;exact nm mu
 refine ⟨λb u q n _ _=>k b u (hb b n) q,λb u q n _ _=>⟨u.slots,k b u (hb b n) q⟩,λb u q n _=>by rw [ma (hx b n)];exact n,λb u q _=>?_,
  λb xs q=>by rw [ma (hm b _ q λz=>z)];exact q,λb u xs q=>by rw [ma (hm b _ q λz=>z)];exact q,λb ps q=>⟨#[],by rw [ma (hm b _ q λz=>z),q];simp⟩⟩
 by_cases hbe:b=e
 ·subst hbe;exact c9
 ·exact ⟨u,k b u hbe q⟩
end
noncomputable def trk (h:Heap) (H:Hp):List Addr:=(range h.objs.size).filter λa=>(H a).isSome
noncomputable def hidT (h:Heap) (H:Hp):Heap:=PySem.W.hideAll h (trk h H)
theorem xJ (h:Heap) (H:Hp):(hidT h H).objs.size=h.objs.size:=PySem.W.hideAll_size _ _
theorem xx {h:Heap}{H:Hp}{b:Addr}{o:Obj} (e:h.get? b=some o) (n:H b=none):(hidT h H).get? b=some o :=
 PySem.W.hideAll_get _ e λhm=>by
  have q:(H b).isSome=true:=(mem_filter.mp hm).2
  rw [n] at q;simp at q
theorem we {h:Heap}{H:Hp}{b:Addr}{o:Obj} (e:(hidT h H).get? b=some o):h.get? b=some o/\H b=none:=by
 have e':h.get? b=some o:=PySem.W.of_hideAll (trk h H) e
 refine ⟨e',?_⟩
 cases q:H b with
 | none=>rfl
 | some x =>
  have hm:b∈trk h H:=mem_filter.mpr ⟨mem_range.mpr (lt_size e'),by simp [q]⟩
  have z:(hidT h H).get? b=none:=PySem.W.hideAll_none (trk h H) hm
  rw [z] at e;cases e
structure Mod (K:PySem.W.Frag) (mg:Str->Option Value) (base:Heap):Prop where
 kin:K.In base
 glob:base.Ns mainGlobals mg
 blt:∃ mb,base.Ns builtinsNs mb/\∀ x:Str,x ≠ "__name__"->mb x=bootBuiltins x
 nolimit:base.NoLimit
structure Cx where
 prog:Program
 w:World
 K:PySem.W.Frag
 mg:Str->Option Value
 base:Heap
 A:Around
 N:List Str
 s₀:Shared
 H₀:Hp
 env:Env
 outer:List Env
 stack:List Env
 ex:List Addr
 fn:Str->Bool
 calm:Bool
 pn:List (Addr×Obj)
 xe:Value->Shared->Prop
noncomputable def frs (l:List Env):List Addr:=l.filterMap (·.frame)
noncomputable abbrev Cx.fs (X:Cx):List Addr:=frs X.outer
def Vis (sc:Scope) (x:Str):Prop:=sc.names.lookup x=some .local\/sc.names.lookup x=some .cell\/sc.names.lookup x=some .free
def Loc (sc:Scope) (x:Str):Prop:=sc.names.lookup x=some .local\/sc.names.lookup x=some .cell
noncomputable def visB (s:Scope) (x:Str):Bool:=match s.names.lookup x with|some .local=>true|some .cell=>true|some .free=>true|_=>false
noncomputable def locB (s:Scope) (x:Str):Bool:=match s.names.lookup x with|some .local=>true|some .cell=>true|_=>false
noncomputable def fnB (X:Cx) (x:Str):Bool:=X.fn x||match X.env.scope.names.lookup x with|some .local=>true|_=>false
theorem visI {s:Scope}{x:Str} (h:visB s x=true):Vis s x:=by
 unfold visB at h;unfold Vis;split at h<;>simp_all
theorem locI {s:Scope}{x:Str} (h:locB s x=true):Loc s x:=by
 unfold locB at h;unfold Loc;split at h<;>simp_all
theorem fnI {X:Cx}{x:Str} (h:fnB X x=true):X.fn x=true\/X.env.scope.names.lookup x=some .local:=by
 unfold fnB at h
 cases e:X.fn x with
 | true=>exact .inl rfl
 | false=>rw [e,Bool.false_or] at h;split at h<;>simp_all
def Look (env:Env) (h:Heap) (m:Str->Option Value) (x:Str) (u:Value):Prop :=
 (env.kindOf x=some .local/\m x=some u)\/((env.kindOf x=some .cell\/env.kindOf x=some .free)/\∃ c,env.cells.lookup x=some c/\h.IsCell c (some u))
structure Cx.Ok (X:Cx):Prop where
 mod:Mod X.K X.mg X.base
 kind:X.env.scope.kind=.function
 glob:X.env.globals=mainGlobals
 blt:X.env.builtins=builtinsNs
 above:X.s₀.heap.objs.size<=X.env.locals
 inj:∀ x y c,X.env.cells.lookup x=some c->X.env.cells.lookup y=some c->x=y
 has:∀ x,(X.env.kindOf x=some .cell\/X.env.kindOf x=some .free)->∃ c,X.env.cells.lookup x=some c
 cab:∀ x c,X.fn x=true->X.env.cells.lookup x=some c->X.s₀.heap.objs.size<=c
 hd:X.calm=true->X.A.handled=none
 frames:X.A.frames=some X.stack
 stk:X.stack=X.outer\/(X.stack=X.env::X.outer/\X.env.frame=some X.env.locals)
 exf:∀ b∈X.ex,b≠X.env.locals/\∀ x c,X.env.cells.lookup x=some c->c≠b
 bs:∀ b o,X.base.get? b=some o->X.s₀.heap.get? b=some o/\X.H₀ b=none
 bsz:X.base.objs.size<=X.s₀.heap.objs.size
 noex:∀ b o,X.base.get? b=some o->b∉X.ex
 exfs:∀ b∈X.ex,b∉X.fs
 funs:X.s₀.heap.FunFrames X.base X.outer
 frf:∀ b∈X.fs,X.H₀ b=none
structure Inv (X:Cx) (aa:List (Addr×Obj)) (U:List (Option V)) (H:Hp) (s:Shared):Prop where
 ok:X.Ok
 os:s.os=X.s₀.os
 bare:AllBare s.gens
 base:Un X.fs X.ex X.H₀ H X.s₀.heap s.heap
 loc:∃ m,s.heap.Ns X.env.locals m/\∀ (i:Nat) (x:Str) (v:V),X.N[i]?=some x->U[i]?=some (some v)->Vis X.env.scope x->∃ u,RelV v u/\Look X.env s.heap m x u
 cell:∀ x c,X.env.cells.lookup x=some c->∃ v,s.heap.IsCell c v
 free:H X.env.locals=none
 freeC:∀ x c,X.env.cells.lookup x=some c->H c=none
 pin:∀ p∈X.pn++aa,s.heap.get? p.1=some p.2/\H p.1=none/\p.1≠X.env.locals/\p.1∉X.fs/\∀ v,p.2.data≠.cell v
 hok:HOk X.prog X.w H s.heap
 len:U.length=X.N.length
section
variable {X:Cx}{aa:List (Addr×Obj)}{U:List (Option V)}{H H':Hp}{s:Shared}{h':Heap}
theorem Cx.Ok.nofr (ok:X.Ok){b:Addr}{o:Obj} (e:X.base.get? b=some o):b∉X.fs:=λhb=>by
 have:=(ok.funs.mem hb).1
 rw [e] at this;cases this
theorem Inv.bs (I:Inv X aa U H s):∀ b o,X.base.get? b=some o->s.heap.get? b=some o/\H b=none:=λb o e =>
 ⟨I.base.keep b o (I.ok.bs b o e).1 (I.ok.bs b o e).2 (I.ok.nofr e) (I.ok.noex b o e),I.base.free b o (I.ok.bs b o e).1 (I.ok.bs b o e).2 (I.ok.noex b o e)⟩
theorem Inv.bk (I:Inv X aa U H s):∀ b o,X.base.get? b=some o->s.heap.get? b=some o:=λb o e=>(I.bs b o e).1
theorem Inv.mod (I:Inv X aa U H s):Mod X.K X.mg X.base:=I.ok.mod
theorem Inv.kIn (I:Inv X aa U H s):X.K.In s.heap:=I.ok.mod.kin.keeps I.bk
theorem Inv.lt (I:Inv X aa U H s):X.env.locals < s.heap.objs.size:=let ⟨_,hn,_⟩:=I.loc;hn.lt
theorem Inv.sz (I:Inv X aa U H s):X.s₀.heap.objs.size<=s.heap.objs.size:=le_trans I.ok.above (le_of_lt I.lt)
theorem Inv.nofs (I:Inv X aa U H s){a:Addr} (h:s.heap.objs.size<=a):a∉X.fs:=λhb=>by
 obtain ⟨_,o,ho,_⟩:=I.ok.funs.mem hb
 exact absurd (lt_of_lt_of_le (lt_size ho) (le_trans I.sz h)) (lt_irrefl _)
theorem Inv.cne (I:Inv X aa U H s):∀ x c,X.env.cells.lookup x=some c->c≠X.env.locals:=λx c e z=>by
 obtain ⟨v,o,ho,hd⟩:=I.cell x c e
 obtain ⟨m,⟨o',es,ep,bL,dB,_⟩,_⟩:=I.loc
 rw [z,bL] at ho;cases ho;rw [dB] at hd;cases hd
theorem Inv.funs (I:Inv X aa U H s):s.heap.FunFrames X.base X.outer:=by
 have all:∀ (l:List Env),(∀ b∈frs l,b∈X.fs)->X.s₀.heap.FunFrames X.base l->s.heap.FunFrames X.base l:=by
  intro l
  induction l with
  | nil=>intro _ _;trivial
  | cons env r ih =>
   intro hs hl
   obtain ⟨hk,⟨L,o,hf,hn,ho,hd⟩,hr⟩:=hl
   have hL:L∈X.fs:=hs L (by unfold frs;rw [filterMap_cons,hf];exact mem_cons_self)
   obtain ⟨sl,e⟩:=I.base.slot L o ho (I.ok.frf L hL) hL λz=>I.ok.exfs L z hL
   exact ⟨hk,⟨L,_,hf,hn,e,hd⟩,ih (λb hb=>hs b (by unfold frs;rw [filterMap_cons,hf];exact mem_cons_of_mem _ hb)) hr⟩
 exact all X.outer (λ_ hb=>hb) I.ok.funs
theorem Inv.stack (I:Inv X aa U H s):s.heap.FunFrames X.base X.stack:=by
 rcases I.ok.stk with e | ⟨e,hf⟩
 ·rw [e];exact I.funs
 ·rw [e]
  obtain ⟨m,hn,_⟩:=I.loc
  refine .cons (by rw [I.ok.kind];decide) hf hn ?_ I.funs
  exact get?_none_of_le (le_trans I.ok.bsz I.ok.above)
theorem Inv.stkSub (I:Inv X aa U H s):∀ b∈frs X.stack,b∈X.env.locals::X.fs:=λb hb=>by
 rcases I.ok.stk with e | ⟨e,hf⟩
 ·rw [e] at hb;exact mem_cons_of_mem _ hb
 ·rw [e] at hb
  unfold frs at hb
  rw [filterMap_cons,hf] at hb
  exact hb
theorem Inv.stkFree (I:Inv X aa U H s):∀ b∈frs X.stack,H b=none:=λb hb=>by
 rcases mem_cons.mp (I.stkSub b hb) with e | hb
 ·rw [e];exact I.free
 ·obtain ⟨_,o,ho,_⟩:=I.ok.funs.mem hb
  exact I.base.free b o ho (I.ok.frf b hb) λz=>I.ok.exfs b z hb
theorem Inv.stepN {g':Array GenState}{t':Nat}{d':Drawn}{ch:List Addr} (I:Inv X aa U H s)
  (aH:∀ b∈ch,(b∈X.ex\/X.s₀.heap.get? b=none)/\b≠X.env.locals/\(∀ x c,X.env.cells.lookup x=some c->c≠b)/\∀ p∈X.pn++aa,p.1≠b)
  (keep:∀ b o,b≠X.env.locals->b∉X.fs->b∉ch->s.heap.get? b=some o->H b=none->h'.get? b=some o)
  (slot:∀ b o,b≠X.env.locals->b∈X.fs->b∉ch->s.heap.get? b=some o->H b=none->∃ sl,h'.get? b=some { o with slots:=sl }) (free:∀ b o,b∉ch->s.heap.get? b=some o->H b=none->H' b=none)
  (there:∀ b o,b∉ch->s.heap.get? b=some o->∃ o',h'.get? b=some o')
  (tups:∀ b xs,H b=some (.tup xs)->H' b=some (.tup xs)) (frzs:∀ b o u,H b=some (.frz o u)->H' b=some (.frz o u)) (tbls:∀ b ps,H b=some (.tbl ps)->∃ more,H' b=some (.tbl (ps++more)))
  (ns:∀ m,s.heap.Ns X.env.locals m->h'.Ns X.env.locals m) (hok:HOk X.prog X.w H' h') (hg:AllBare g') :
  Inv X aa U H' { s with heap:=h',gens:=g',drawn:=d',toks:=t' }:=by
 have h9:∀ b o,X.s₀.heap.get? b=some o->b≠X.env.locals:=λb o e=>ne_of_lt (lt_of_lt_of_le (lt_size e) I.ok.above)
 have de:∀ b o,X.s₀.heap.get? b=some o->b∉X.ex->b∉ch:=λb o e hx hb=>by
  rcases (aH b hb).1 with z | z
  ·exact hx z
  ·rw [z] at e;cases e
 have dC:∀ x c,X.env.cells.lookup x=some c->∀ v,s.heap.IsCell c v->h'.IsCell c v:=λx c e v ⟨o,ho,hd⟩=>by
  have bu:c∉ch:=λz=>(aH c z).2.2.1 x c e rfl
  by_cases hc:c∈X.fs
  ·obtain ⟨sl,q⟩:=slot c o (I.cne x c e) hc bu ho (I.freeC x c e)
   exact ⟨_,q,hd⟩
  ·exact ⟨o,keep c o (I.cne x c e) hc bu ho (I.freeC x c e),hd⟩
 refine ⟨I.ok,I.os,hg,⟨λb o e n hb hx=>?_,λb o e n hb hx=>?_,λb o e n hx=>?_,λb o e hx=>?_,λb xs e=>tups b xs (I.base.tups b xs e),λb o xs e=>frzs b o xs (I.base.frzs b o xs e),λb ps e=>?_⟩,?_,λx c e=>?_,?_,λx c e=>?_,λp hp=>?_,hok,I.len⟩
 ·exact keep b o (h9 b o e) hb (de b o e hx) (I.base.keep b o e n hb hx) (I.base.free b o e n hx)
 ·obtain ⟨sl,e1⟩:=I.base.slot b o e n hb hx
  obtain ⟨fM,e2⟩:=slot b _ (h9 b o e) hb (de b o e hx) e1 (I.base.free b o e n hx)
  exact ⟨fM,e2⟩
 ·obtain ⟨o',e1⟩:=I.base.there b o e hx
  exact free b o' (de b o e hx) e1 (I.base.free b o e n hx)
 ·obtain ⟨o',e1⟩:=I.base.there b o e hx
  exact there b o' (de b o e hx) e1
 ·obtain ⟨m1,e1⟩:=I.base.tbls b ps e
  obtain ⟨m2,e2⟩:=tbls b _ e1
  exact ⟨m1++m2,by rw [e2,Array.append_assoc]⟩
 ·obtain ⟨m,hn,hl⟩:=I.loc
  refine ⟨m,ns m hn,λi x v e1 e2 e3=>?_⟩
  obtain ⟨u,r,l⟩:=hl i x v e1 e2 e3
  refine ⟨u,r,?_⟩
  rcases l with l | ⟨k,c,e,z⟩
  ·exact .inl l
  ·exact .inr ⟨k,c,e,dC x c e _ z⟩
 ·obtain ⟨v,z⟩:=I.cell x c e
  exact ⟨v,dC x c e v z⟩
 ·obtain ⟨m,⟨o,_,_,ho,_⟩,_⟩:=I.loc
  exact free _ o (λz=>(aH _ z).2.1 rfl) ho I.free
 ·obtain ⟨v,o,ho,hd⟩:=I.cell x c e
  exact free c o (λz=>(aH c z).2.2.1 x c e rfl) ho (I.freeC x c e)
 ·obtain ⟨e,n,ne,nf,d⟩:=I.pin p hp
  have bu:p.1∉ch:=λz=>(aH p.1 z).2.2.2 p hp rfl
  exact ⟨keep p.1 p.2 ne nf bu e n,free p.1 p.2 bu e n,ne,nf,d⟩
theorem Inv.step {g':Array GenState}{t':Nat}{d':Drawn}{ch:List Addr} (I:Inv X aa U H s)
  (aH:∀ b∈ch,(b∈X.ex\/X.s₀.heap.objs.size<=b)/\b≠X.env.locals/\(∀ x c,X.env.cells.lookup x=some c->c≠b)/\∀ p∈X.pn++aa,p.1≠b)
  (keep:∀ b o,b≠X.env.locals->b∉X.fs->b∉ch->s.heap.get? b=some o->H b=none->h'.get? b=some o)
  (slot:∀ b o,b≠X.env.locals->b∈X.fs->b∉ch->s.heap.get? b=some o->H b=none->∃ sl,h'.get? b=some { o with slots:=sl }) (free:∀ b o,b∉ch->s.heap.get? b=some o->H b=none->H' b=none)
  (there:∀ b o,b∉ch->s.heap.get? b=some o->∃ o',h'.get? b=some o')
  (tups:∀ b xs,H b=some (.tup xs)->H' b=some (.tup xs)) (frzs:∀ b o u,H b=some (.frz o u)->H' b=some (.frz o u)) (tbls:∀ b ps,H b=some (.tbl ps)->∃ more,H' b=some (.tbl (ps++more)))
  (ns:∀ m,s.heap.Ns X.env.locals m->h'.Ns X.env.locals m) (hok:HOk X.prog X.w H' h') (hg:AllBare g') :
  Inv X aa U H' { s with heap:=h',gens:=g',drawn:=d',toks:=t' } :=
 I.stepN (λb hb=>⟨(aH b hb).1.imp id get?_none_of_le,(aH b hb).2⟩) keep slot free there tups frzs tbls ns hok hg
theorem Inv.un {t':Nat} (I:Inv X aa U H s) (u:Un X.fs [] H H' s.heap h') (hok:HOk X.prog X.w H' h'):Inv X aa U H' { s with heap:=h',toks:=t' }:=by
 obtain ⟨m,⟨o,es,ep,ho,r⟩,_⟩:=id I.loc
 obtain ⟨sl,hL⟩:=u.any ho I.free (by simp)
 exact I.step (g':=s.gens) (d':=s.drawn) (ch:=[]) (λ_ z=>nomatch z) (λb o _ hb _ e n=>u.keep b o e n hb (by simp)) (λb o _ hb _ e n=>u.slot b o e n hb (by simp)) (λb o _ e n=>u.free b o e n (by simp)) (λb o _ e=>u.there b o e (by simp)) u.tups u.frzs u.tbls (λm' hm=>by
  obtain ⟨o',df,fN,bL,r'⟩:=hm
  rw [ho] at bL;cases bL
  exact ⟨_,df,fN,hL,r'⟩) hok I.bare
theorem Inv.callN {g':Array GenState}{t':Nat}{d':Drawn}{ch:List Addr} (I:Inv X aa U H s) (u:Un (frs X.stack) ch H H' s.heap h') (hok:HOk X.prog X.w H' h') (hg:AllBare g')
  (aH:∀ b∈ch,(b∈X.ex\/X.s₀.heap.get? b=none)/\b≠X.env.locals/\(∀ x c,X.env.cells.lookup x=some c->c≠b)/\∀ p∈X.pn++aa,p.1≠b) :
  Inv X aa U H' { s with heap:=h',gens:=g',drawn:=d',toks:=t' }:=by
 obtain ⟨m,⟨o,es,ep,ho,r⟩,_⟩:=id I.loc
 obtain ⟨sl,hL⟩:=u.any ho I.free λz=>(aH _ z).2.1 rfl
 exact I.stepN (ch:=ch) aH (λb o hL hb hc e n=>u.keep b o e n (λz=>(mem_cons.mp (I.stkSub b z)).elim hL hb) hc) (λb o _ _ hc e n=>u.any e n hc) (λb o hc e n=>u.free b o e n hc) (λb o hc e=>u.there b o e hc) u.tups u.frzs u.tbls (λm' hm=>by
  obtain ⟨o',df,fN,bL,r'⟩:=hm
  rw [ho] at bL;cases bL
  exact ⟨_,df,fN,hL,r'⟩) hok hg
theorem Inv.call {g':Array GenState}{t':Nat}{d':Drawn}{ch:List Addr} (I:Inv X aa U H s) (u:Un (frs X.stack) ch H H' s.heap h') (hok:HOk X.prog X.w H' h') (hg:AllBare g')
  (aH:∀ b∈ch,(b∈X.ex\/X.s₀.heap.objs.size<=b)/\b≠X.env.locals/\(∀ x c,X.env.cells.lookup x=some c->c≠b)/\∀ p∈X.pn++aa,p.1≠b) :
  Inv X aa U H' { s with heap:=h',gens:=g',drawn:=d',toks:=t' } :=
 I.callN u hok hg λb hb=>⟨(aH b hb).1.imp id get?_none_of_le,(aH b hb).2⟩
theorem Inv.turned {t':Nat}{it:Addr} (I:Inv X aa U H s) (k:∀ b o,b≠it->s.heap.get? b=some o->h'.get? b=some o) (hn:H it=none) (hL:it≠X.env.locals)
  (h1:it∈X.ex\/X.s₀.heap.objs.size<=it) (h2:∀ x c,X.env.cells.lookup x=some c->c≠it) (h3:∀ p∈X.pn++aa,p.1≠it):Inv X aa U H { s with heap:=h',toks:=t' }:=by
 have ic:∀ b u,H b=some u->b≠it:=λb u e z=>by rw [z,hn] at e;cases e
 refine I.step (g':=s.gens) (d':=s.drawn) (ch:=[it]) (λb hb=>?_) (λb o _ _ hc e _=>k b o (λz=>hc (by simp [z])) e) (λb o _ _ hc e _=>⟨o.slots,k b o (λz=>hc (by simp [z])) e⟩) (λ_ _ _ _ n=>n)
  (λb o hc e=>⟨o,k b o (λz=>hc (by simp [z])) e⟩) (λ_ _ e=>e) (λ_ _ _ e=>e) (λb ps e=>⟨#[],by rw [e];simp⟩) (λm hm=>?_) (λb u e=>?_) I.bare
 ·have e:b=it:=by simpa using hb
  subst e
  exact ⟨h1,hL,h2,h3⟩
 ·obtain ⟨o,es,ep,ho,r⟩:=hm
  exact ⟨o,es,ep,k _ o (symm hL) ho,r⟩
 ·refine (I.hok b u e).stay (λc v hc q=>k c v ?_ q) (λ_ q=>q) λ_ _ q=>q
  rcases hc with z | z
  ·rw [z];exact ic b u e
  ·exact ic c _ z
theorem Inv.tok (I:Inv X aa U H s) (t:Nat):Inv X aa U H { s with toks:=t }:=I.un (h':=s.heap) (t':=t) Un.refl I.hok
theorem Inv.kept {t':Nat} (I:Inv X aa U H s) (k:∀ b u,s.heap.get? b=some u->h'.get? b=some u):Inv X aa U H { s with heap:=h',toks:=t' }:=I.un (Un.kept k) (I.hok.kept k)
theorem Inv.laid {a:Addr}{o:HO}{t':Nat} (I:Inv X aa U H s) (k:∀ b u,s.heap.get? b=some u->h'.get? b=some u) (hp:s.heap.objs.size<=a) (new:ObjOk X.prog X.w (upd H a o) h' a o) :
  Inv X aa U (upd H a o) { s with heap:=h',toks:=t' }:=I.un (Un.laid k hp (I.hok.fresh hp)) (I.hok.laid k hp new)
theorem Inv.write {x e:Addr}{o:HO}{t':Nat} (I:Inv X aa U H s) (mu:Mut (H x)) (he:e=x\/H e=some (.own x)) (k:∀ b u,b≠e->s.heap.get? b=some u->h'.get? b=some u) (c9:∃ u,h'.get? e=some u)
  (new:ObjOk X.prog X.w (upd H x o) h' x o):Inv X aa U (upd H x o) { s with heap:=h',toks:=t' }:=I.un (Un.write mu he k c9) (I.hok.write mu he k c9 new)
theorem Inv.pins_of {dD:List (Addr×Obj)} (I:Inv X aa U H s) (h:∀ p∈dD,s.heap.get? p.1=some p.2/\H p.1=none/\p.1≠X.env.locals/\p.1∉X.fs/\∀ v,p.2.data≠.cell v):Inv X dD U H s :=
 ⟨I.ok,I.os,I.bare,I.base,I.loc,I.cell,I.free,I.freeC,λp hp=>(mem_append.mp hp).elim (λz=>I.pin p (mem_append_left _ z)) (h p),I.hok,I.len⟩
theorem r9 {N:List Str} (hN:N.Nodup){i j:Nat}{x:Str} (a:N[i]?=some x) (b:N[j]?=some x):i=j:=by
 obtain ⟨h1,e1⟩:=List.getElem?_eq_some_iff.mp a
 obtain ⟨h2,e2⟩:=List.getElem?_eq_some_iff.mp b
 exact (List.getElem_inj hN).mp (e1.trans e2.symm)
theorem tJ {M:Model}{A:Around}{E:Value->Shared->Prop}{i:Nat}{x:Str}{v:V}{u:Value}{Q:Unit->Shared->Prop} (I:Inv X aa U H s) (hN:X.N.Nodup) (hi:X.N[i]?=some x) (hx:Loc X.env.scope x) (r:RelV v u)
  (h:∀ s',Inv X aa (U.set i (some v)) H s'->(∃ a,Heap.SameBut a s.heap s'.heap/\(a=X.env.locals\/X.env.cells.lookup x=some a))->Q () s') (hf:X.fn x=true\/X.env.scope.names.lookup x=some .local):wpAny M A (storeName X.env x u) Q E s:=by
 obtain ⟨m,hn,hl⟩:=id I.loc
 have ig:(X.env.scope.kind == .class||(X.env.scope.kind == .module&&X.env.locals != X.env.globals))=false:=by rw [I.ok.kind];rfl
 have fA:i < U.length:=by rw [I.len];exact (List.getElem?_eq_some_iff.mp hi).1
 have cne:=I.cne
 have bM:∀ {a:Addr}{h':Heap},(∃ o,s.heap.get? a=some o/\H a=none)->Heap.SameBut a s.heap h'->HOk X.prog X.w H h':=λ{a h'} ha hs b ob e=>by
  obtain ⟨_,_,dE⟩:=ha
  refine (I.hok b ob e).stay (λc w' hc q=>(hs.2 c ?_).trans q) (λ_ q=>q) λ_ _ q=>q
  rintro rfl
  rcases hc with rfl | hc
  ·rw [dE] at e;cases e
  ·rw [dE] at hc;cases hc
 rcases hx with hk | hk
 ·refine wpAny_storeName_local hk hn (λh' bW hs=>?_) ig
  obtain ⟨oL,_,_,ii,_⟩:=id hn
  refine h _ ⟨I.ok,I.os,I.bare,⟨λb o e n hb hx=>?_,λb o e n hb hx=>?_,I.base.free,λb o e hx=>?_,I.base.tups,I.base.frzs,I.base.tbls⟩,⟨_,bW,λj y v' e1 e2 e3=>?_⟩,λy c e=>?_,I.free,I.freeC,λp hp=>?_,bM ⟨oL,ii,I.free⟩ hs,by simpa using I.len⟩ ⟨_,hs,.inl rfl⟩
  ·exact (hs.2 b (ne_of_lt (lt_of_lt_of_le (lt_size e) I.ok.above))).trans (I.base.keep b o e n hb hx)
  ·obtain ⟨sl,e1⟩:=I.base.slot b o e n hb hx
   exact ⟨sl,(hs.2 b (ne_of_lt (lt_of_lt_of_le (lt_size e) I.ok.above))).trans e1⟩
  ·obtain ⟨o',e1⟩:=I.base.there b o e hx
   exact ⟨o',(hs.2 b (ne_of_lt (lt_of_lt_of_le (lt_size e) I.ok.above))).trans e1⟩
  ·by_cases hj:j=i
   ·subst hj
    rw [hi] at e1;cases e1
    rw [List.getElem?_set_self fA] at e2
    cases e2
    exact ⟨u,r,.inl ⟨hk,by simp⟩⟩
   ·rw [getElem?_set_ne (symm hj)] at e2
    obtain ⟨u',r',q⟩:=hl j y v' e1 e2 e3
    refine ⟨u',r',?_⟩
    rcases q with ⟨k,e⟩ | ⟨k,c,e,z⟩
    ·refine .inl ⟨k,?_⟩
     have:y≠x:=λe=>hj (r9 hN e1 (e▸hi))
     simp [this,e]
    ·exact .inr ⟨k,c,e,z.sameBut hs (cne y c e)⟩
  ·obtain ⟨w',z⟩:=I.cell y c e
   exact ⟨w',z.sameBut hs (cne y c e)⟩
  ·obtain ⟨e,n,ne,nf,d⟩:=I.pin p hp
   exact ⟨(hs.2 p.1 ne).trans e,n,ne,nf,d⟩
 ·have fO:X.fn x=true:=by
   rcases hf with z | z
   ·exact z
   ·rw [z] at hk;cases hk
  obtain ⟨c,hc⟩:=I.ok.has x (.inl hk)
  obtain ⟨w',z⟩:=I.cell x c hc
  refine wpAny_storeName_cell I.ok.kind hk hc z (λh' aX hs=>?_)
  obtain ⟨oc,ij,ik⟩:=id z
  refine h { s with heap:=h' } ⟨I.ok,I.os,I.bare,⟨λb o e n hb hx=>?_,λb o e n hb hx=>?_,I.base.free,λb o e hx=>?_,I.base.tups,I.base.frzs,I.base.tbls⟩,⟨m,hn.sameBut hs (symm (cne x c hc)),λj y v' e1 e2 e3=>?_⟩,λy c' e=>?_,I.free,I.freeC,λp hp=>?_,bM ⟨oc,ij,I.freeC x c hc⟩ hs,by simpa using I.len⟩ ⟨c,hs,.inr hc⟩
  ·exact (hs.2 b (ne_of_lt (lt_of_lt_of_le (lt_size e) (I.ok.cab x c fO hc)))).trans (I.base.keep b o e n hb hx)
  ·obtain ⟨sl,e1⟩:=I.base.slot b o e n hb hx
   exact ⟨sl,(hs.2 b (ne_of_lt (lt_of_lt_of_le (lt_size e) (I.ok.cab x c fO hc)))).trans e1⟩
  ·obtain ⟨o',e1⟩:=I.base.there b o e hx
   exact ⟨o',(hs.2 b (ne_of_lt (lt_of_lt_of_le (lt_size e) (I.ok.cab x c fO hc)))).trans e1⟩
  ·by_cases hj:j=i
   ·subst hj
    rw [hi] at e1;cases e1
    rw [List.getElem?_set_self fA] at e2
    cases e2
    exact ⟨u,r,.inr ⟨.inl hk,c,hc,aX⟩⟩
   ·rw [getElem?_set_ne (symm hj)] at e2
    obtain ⟨u',r',q⟩:=hl j y v' e1 e2 e3
    refine ⟨u',r',?_⟩
    rcases q with q | ⟨k,c',e,z'⟩
    ·exact .inl q
    ·refine .inr ⟨k,c',e,z'.sameBut hs ?_⟩
     rintro rfl
     exact hj (r9 hN e1 (I.ok.inj _ _ _ e hc▸hi))
  ·by_cases fP:c'=c
   ·subst fP;exact ⟨_,aX⟩
   ·obtain ⟨w2,z2⟩:=I.cell y c' e
    exact ⟨w2,z2.sameBut hs fP⟩
  ·obtain ⟨e,n,ne,nf,d⟩:=I.pin p hp
   refine ⟨(hs.2 p.1 ?_).trans e,n,ne,nf,d⟩
   intro q
   rw [q,ij] at e
   have q':oc=p.2:=Option.some.inj e
   exact d w' (by rw [← q'];exact ik)
theorem qP {M:Model}{A:Around}{E:Value->Shared->Prop}{i:Nat}{x:Str}{v:V}{u:Value}{Q:Unit->Shared->Prop} (I:Inv X aa U H s) (hN:X.N.Nodup) (hi:X.N[i]?=some x) (hx:Loc X.env.scope x) (r:RelV v u)
  (h:∀ s',Inv X aa (U.set i (some v)) H s'->Q () s') (hf:X.fn x=true\/X.env.scope.names.lookup x=some .local):wpAny M A (storeName X.env x u) Q E s :=
 tJ I hN hi hx r (λs' I' _=>h s' I') hf
theorem Inv.call' {s':Shared}{ch:List Addr} (I:Inv X aa U H s) (ho:s'.os=s.os) (u:Un (frs X.stack) ch H H' s.heap s'.heap) (hok:HOk X.prog X.w H' s'.heap) (hg:AllBare s'.gens)
  (aH:∀ b∈ch,(b∈X.ex\/X.s₀.heap.objs.size<=b)/\b≠X.env.locals/\(∀ x c,X.env.cells.lookup x=some c->c≠b)/\∀ p∈X.pn++aa,p.1≠b):Inv X aa U H' s':=by
 obtain ⟨h',g',d',t',o'⟩:=s'
 have e:o'=s.os:=ho
 subst e
 exact I.call (g':=g') (t':=t') (d':=d') u hok hg aH
end
abbrev XK:=Value->Option Addr->Hp->Prop
abbrev St:=List (Option V)
abbrev VK:=V->Hp->Prop
abbrev TE:=St->Hp->VK->Prop
abbrev TT:=St->Hp->(Bool->Hp->Prop)->Prop
abbrev TA:=St->Hp->(List V->Hp->Prop)->Prop
structure Ends where
 nx:St->Hp->Prop
 rt:VK
 bk:St->Hp->Prop:=λ_ _=>False
 ct:St->Hp->Prop:=λ_ _=>False
abbrev TS:=Ends->St->Hp->Prop
def EP (X:Cx) (aa:List (Addr×Obj)) (U:St) (Q:VK) (u:Value) (s':Shared):Prop:=∃ v H',Inv X aa U H' s'/\RelV v u/\Q v H'
def TP (X:Cx) (aa:List (Addr×Obj)) (U:St) (Q:Bool->Hp->Prop) (b:Bool) (s':Shared):Prop:=∃ H',Inv X aa U H' s'/\Q b H'
def AP (X:Cx) (aa:List (Addr×Obj)) (U:St) (Q:List V->Hp->Prop) (us:List Value) (s':Shared):Prop:=∃ vs H',Inv X aa U H' s'/\Vals vs us/\Q vs H'
def SP (X:Cx) (aa:List (Addr×Obj)) (D:Ends) (f:Flow) (s':Shared):Prop :=
 match f with
 | .next=>∃ af H',Inv X aa af H' s'/\D.nx af H'
 | .brk=>∃ af H',Inv X aa af H' s'/\D.bk af H'
 | .cont=>∃ af H',Inv X aa af H' s'/\D.ct af H'
 | .ret u=>∃ v af H',Inv X aa af H' s'/\RelV v u/\D.rt v H'
def PE (X:Cx) (e:Expr) (t:TE):Prop :=
 ∀ (aa:List (Addr×Obj)) (s:Shared) (U:St) (H:Hp) (Q:VK),Inv X aa U H s->t U H Q->wpAny (model X.prog X.w) X.A (eval e X.env) (EP X aa U Q) X.xe s
def PT (X:Cx) (e:Expr) (t:TT):Prop :=
 ∀ (aa:List (Addr×Obj)) (s:Shared) (U:St) (H:Hp) (Q:Bool->Hp->Prop),Inv X aa U H s->t U H Q->wpAny (model X.prog X.w) X.A (isTrue e X.env (eval e X.env)) (TP X aa U Q) X.xe s
def PW (X:Cx) (e:Expr) (t:TT):Prop :=
 ∀ (aY:Sem Value) (aa:List (Addr×Obj)) (s:Shared) (U:St) (H:Hp) (Q:Bool->Hp->Prop),Inv X aa U H s->t U H Q->wpAny (model X.prog X.w) X.A (isTrue e X.env aY) (TP X aa U Q) X.xe s
def PA (X:Cx) (es:List Expr) (t:TA):Prop :=
 ∀ (pos:Pos) (aa:List (Addr×Obj)) (s:Shared) (U:St) (H:Hp) (Q:List V->Hp->Prop),Inv X aa U H s->t U H Q->wpAny (model X.prog X.w) X.A (spliced (backTo pos (starEach es X.env))) (AP X aa U Q) X.xe s
def PS (X:Cx) (st:Stmt) (t:TS):Prop :=
 ∀ (aa:List (Addr×Obj)) (s:Shared) (U:St) (H:Hp) (D:Ends),Inv X aa U H s->t D U H->wpAny (model X.prog X.w) X.A (exec st X.env) (SP X aa D) X.xe s
def PSs (X:Cx) (st:List Stmt) (t:TS):Prop :=
 ∀ (aa:List (Addr×Obj)) (s:Shared) (U:St) (H:Hp) (D:Ends),Inv X aa U H s->t D U H->wpAny (model X.prog X.w) X.A (execs st X.env) (SP X aa D) X.xe s
theorem thn {α:Type}{t:Sem α}{Q Q':α->Shared->Prop}{M:Model}{A:Around}{E:Value->Shared->Prop}{s:Shared} (h:wpAny M A t Q E s) (hQ:∀ a s,Q a s->Q' a s):wpAny M A t Q' E s:=wpAny_mono h hQ λ_ _ x=>x
section
variable {X:Cx}
noncomputable def tVar (i:Nat):TE:=λU H Q=>∃ v,U[i]?=some (some v)/\Q v H
noncomputable def tC (v:V):TE:=λ_ H Q=>Q v H
theorem xl {i:Nat}{x:Str}{pos:Pos} (hN:X.N[i]?=some x) (hv:Vis X.env.scope x) (hd:(x == ("__debug__":Str))=false:=by decide) (bh:(x == ("__classdict__":Str))=false:=by decide):PE X (.Name x pos) (tVar i):=by
 intro aa s U H Q I h
 obtain ⟨v,e,h⟩:=h
 obtain ⟨m,hn,hl⟩:=I.loc
 obtain ⟨u,r,l⟩:=hl i x v hN e hv
 have fin:EP X aa U Q u s:=⟨v,H,I,r,h⟩
 rcases l with ⟨hk,hm⟩ | ⟨hk,c,hc,dF⟩
 ·exact wpAny_Name (wpAny_loadName_local I.ok.kind hk hn hm fin) hd
 ·rcases hk with hk | hk
  ·exact wpAny_Name (wpAny_loadName_cell I.ok.kind hk hc dF fin) hd
  ·exact wpAny_Name (wpAny_loadName_free I.ok.kind hk hc dF fin bh) hd
theorem xo {i j pos}:PE X (.Constant (.int i) j pos) (tC (.int i)):=λ_ _ _ H _ I h=>wpAny_Constant_int ⟨.int i,H,I.tok _,⟨_,rfl⟩,h⟩
theorem wY {b j pos}:PE X (.Constant (.bool b) j pos) (tC (.bl b)):=λ_ _ _ H _ I h=>Constant_bool ⟨.bl b,H,I,rfl,h⟩
theorem zI {j pos}:PE X (.Constant .none j pos) (tC .non):=λ_ _ _ H _ I h=>Constant_none ⟨.non,H,I,rfl,h⟩
theorem zP {x j pos}:PE X (.Constant (.str x) j pos) (tC (.str x)):=λ_ _ _ H _ I h=>Calls.Constant_str ⟨.str x,H,I.tok _,⟨_,rfl⟩,h⟩
def Gl (X:Cx) (x:Str):Prop:=X.env.kindOf x=some .globalImplicit
theorem nR {E:Value->Shared->Prop}{aa:List (Addr×Obj)}{s:Shared}{U:St}{H:Hp}{x:Str}{u:Value}{pos:Pos}{Q:Value->Shared->Prop} (I:Inv X aa U H s) (hg:Gl X x) (hm:X.mg x=some u) (h:Q u s)
  (hd:(x == ("__debug__":Str))=false:=by decide):wpAny (model X.prog X.w) X.A (eval (.Name x pos) X.env) Q E s :=
 Calls.Name_function_global I.ok.kind hg (Calls.loadGlobal_global (by rw [I.ok.glob];exact I.mod.glob.keeps I.bk) hm h) hd
theorem nw {E:Value->Shared->Prop}{aa:List (Addr×Obj)}{s:Shared}{U:St}{H:Hp}{x:Str}{u:Value}{pos:Pos}{Q:Value->Shared->Prop} (I:Inv X aa U H s) (hg:Gl X x) (hm:X.mg x=none) (hv:bootBuiltins x=some u) (h:Q u s)
  (hn:x ≠ "__name__":=by decide) (hd:(x == ("__debug__":Str))=false:=by decide):wpAny (model X.prog X.w) X.A (eval (.Name x pos) X.env) Q E s:=by
 obtain ⟨mb,h1,h2⟩:=I.mod.blt
 exact Calls.Name_function_global I.ok.kind hg (Calls.loadGlobal_builtin (by rw [I.ok.glob];exact I.mod.glob.keeps I.bk) hm (by rw [I.ok.blt];exact h1.keeps I.bk) ((h2 x hn).trans hv) h) hd
theorem As {x:Str}{v:V}{u:Value}{pos:Pos} (hg:Gl X x) (hm:X.mg x=some u) (r:RelV v u) (hd:(x == ("__debug__":Str))=false:=by decide):PE X (.Name x pos) (tC v) :=
 λ_ _ _ H _ I h=>nR I hg hm ⟨v,H,I,r,h⟩ hd
theorem Ac {x:Str}{v:V}{u:Value}{pos:Pos} (hg:Gl X x) (hm:X.mg x=none) (hv:bootBuiltins x=some u) (r:RelV v u) (hn:x ≠ "__name__":=by decide) (hd:(x == ("__debug__":Str))=false:=by decide):PE X (.Name x pos) (tC v) :=
 λ_ _ _ H _ I h=>nw I hg hm hv ⟨v,H,I,r,h⟩ hn hd
variable {a b:Expr}{ta tb:TE}{pos:Pos}
noncomputable def tB (t:TE):TT:=λU H Q=>t U H λx H1=>∃ c,x=.bl c/\Q c H1
theorem zQ {e:Expr}{t:TE} (h:PE X e t) (he:∀ aY,isTrue e X.env aY=(do let v ← aY;standAt e.pos;holding [v] (truthy v)):=by intro _;rfl):PT X e (tB t):=by
 intro aa s U H Q I hw
 refine isTrue_plain (thn (h aa s U H _ I hw) λv s1 ⟨x,H1,I1,r1,q1⟩=>?_) (he _)
 obtain ⟨d,rfl,q⟩:=q1
 cases r1
 exact wpAny_truthy_bool ⟨H1,I1,q⟩
variable {tA eI:TT}{aw:List Expr}
noncomputable def tAnd (t u:TT):TT:=λU H Q=>t U H λc H1=>if c=true then u U H1 Q else Q false H1
noncomputable def tOr (t u:TT):TT:=λU H Q=>t U H λc H1=>if c=true then Q true H1 else u U H1 Q
noncomputable def tNot (t:TT):TT:=λU H Q=>t U H λc H1=>Q (!c) H1
theorem AR (ha:PT X a tA):PW X (.BoolOp .And [a] pos) tA:=by
 intro wh aa s U H Q I h
 refine isTrue_and (thn (ha aa s U H Q I h) λc s1 e=>?_)
 cases c with
 | true=>exact isTrue_and_nil e
 | false=>exact e
theorem xR (ha:PT X a tA):PW X (.BoolOp .Or [a] pos) tA:=by
 intro wh aa s U H Q I h
 refine isTrue_or (thn (ha aa s U H Q I h) λc s1 e=>?_)
 cases c with
 | false=>exact isTrue_or_nil e
 | true=>exact e
theorem Bg (ha:PT X a tA) (hb:PW X (.BoolOp .And (b::aw) pos) eI):PW X (.BoolOp .And (a::b::aw) pos) (tAnd tA eI):=by
 intro wh aa s U H Q I h
 refine isTrue_and (thn (ha aa s U H _ I h) λc s1 ⟨H1,I1,q1⟩=>?_)
 cases c with
 | true=>exact hb wh aa s1 U H1 Q I1 q1
 | false=>exact ⟨H1,I1,q1⟩
theorem zo (ha:PT X a tA) (hb:PW X (.BoolOp .Or (b::aw) pos) eI):PW X (.BoolOp .Or (a::b::aw) pos) (tOr tA eI):=by
 intro wh aa s U H Q I h
 refine isTrue_or (thn (ha aa s U H _ I h) λc s1 ⟨H1,I1,q1⟩=>?_)
 cases c with
 | true=>exact ⟨H1,I1,q1⟩
 | false=>exact hb wh aa s1 U H1 Q I1 q1
theorem BW (ha:PT X a tA):PT X (.UnaryOp .Not a pos) (tNot tA):=by
 intro aa s U H Q I h
 exact isTrue_not (ha aa s U H (λc H1=>Q (!c) H1) I h)
noncomputable def tIf (t:TT) (ta tb:TE):TE:=λU H Q=>t U H λc H1=>if c=true then ta U H1 Q else tb U H1 Q
theorem yA {c:Expr} (hc:PT X c tA) (ha:PE X a ta) (hb:PE X b tb):PE X (.IfExp c a b pos) (tIf tA ta tb):=by
 intro aa s U H Q I h
 refine wpAny_IfExp (thn (hc aa s U H _ I h) λd s1 ⟨H1,I1,q1⟩=>?_)
 cases d with
 | true=>exact ha aa s1 U H1 Q I1 q1
 | false=>exact hb aa s1 U H1 Q I1 q1
end
def SqL (K:PySem.W.Frag) (H:Hp) (a:Addr) (xs:List V):Prop :=
 Rd H a (.lst xs) ∨
  ∃ (o:Obj) (ae:Array Value) (n:Nat),K.lookup a=some o/\o.cls=.type "list"/\o.dict=none/\o.data=.seq ae n/\ae.size<=sizeLine/\Vals xs ae.toList
def SqT (K:PySem.W.Frag) (H:Hp) (a:Addr) (xs:List V):Prop :=
 Rd H a (.tup xs) ∨
  ∃ (o:Obj) (ae:Array Value) (n:Nat),K.lookup a=some o/\o.cls=.type "tuple"/\o.data=.seq ae n/\ae.size<=sizeLine/\Vals xs ae.toList
noncomputable def absV:Value->Option V
 | .none=>some .non
 | .bool b=>some (.bl b)
 | .int i _=>some (.int i)
 | .str x _=>some (.str x)
 | .bytes b _=>some (.byt b)
 | .float b _=>some (.flt b)
 | .ref a=>some (.ref a)
 | .type n=>some (.ty n)
 | _=>none
theorem RelV.abs {x:V}{u:Value} (r:RelV x u):absV u=some x:=by
 cases x with
 | non=>cases r;rfl
 | bl _=>cases r;rfl
 | int _=>obtain ⟨t,rfl⟩:=r;rfl
 | str _=>obtain ⟨t,rfl⟩:=r;rfl
 | byt _=>obtain ⟨t,rfl⟩:=r;rfl
 | flt _=>obtain ⟨t,rfl⟩:=r;rfl
 | ref _=>cases r;rfl
 | ty _=>cases r;rfl
theorem RelV.inj {x y:V}{u:Value} (r:RelV x u) (q:RelV y u):x=y:=Option.some.inj (r.abs.symm.trans q.abs)
theorem Vals.inj:∀ {xs ys:List V}{us:List Value},Vals xs us->Vals ys us->xs=ys
 | _,_,_,.nil,.nil=>rfl
 | _,_,_,.cons r t,.cons r' t'=>by rw [r.inj r',Vals.inj t t']
section
variable {X:Cx}{aa:List (Addr×Obj)}{U:St}{H:Hp}{s:Shared}{a:Addr}{xs ys:List V}
theorem SqL.of {K:PySem.W.Frag} (h:H a=some (.lst xs)):SqL K H a xs:=.inl (.inl h)
theorem SqT.of {K:PySem.W.Frag} (h:H a=some (.tup xs)):SqT K H a xs:=.inl (.inl h)
theorem Inv.list (I:Inv X aa U H s) (h:SqL X.K H a xs):∃ ae:List Value,Vals xs ae/\PlainL s.heap a ae.toArray/\xs.length<=sizeLine:=by
 rcases h with h | ⟨o,ae,n,hk,hc,hd,hs,hz,r⟩
 ·obtain ⟨z,ae,n,r,e⟩:=h.ok I.hok
  exact ⟨ae,r,⟨_,n,e,rfl,rfl,rfl⟩,z⟩
 ·refine ⟨ae.toList,r,⟨o,n,I.kIn a o hk,hc,hd,by simpa using hs⟩,?_⟩
  have e:=r.length
  simp only [length_toList] at e
  omega
theorem Inv.tuple (I:Inv X aa U H s) (h:SqT X.K H a xs):∃ ae:List Value,Vals xs ae/\IsTup s.heap a ae.toArray/\xs.length<=sizeLine:=by
 rcases h with h | ⟨o,ae,n,hk,hc,hs,hz,r⟩
 ·obtain ⟨z,ae,r,p⟩:=h.ok I.hok
  exact ⟨ae,r,p,z⟩
 ·refine ⟨ae.toList,r,⟨o,I.kIn a o hk,hc,n,by simpa using hs⟩,?_⟩
  have e:=r.length
  simp only [length_toList] at e
  omega
theorem Inv.list_inj (I:Inv X aa U H s) (h:SqL X.K H a xs) (h':SqL X.K H a ys):xs=ys:=by
 obtain ⟨ae,r,⟨o,n,e,_,_,d⟩,_⟩:=I.list h
 obtain ⟨its',r',⟨o',n',e',_,_,d'⟩,_⟩:=I.list h'
 rw [e] at e';cases e'
 rw [d] at d'
 injection d' with d1 _
 have:ae=its':=by simpa using congrArg toList d1
 subst this
 exact r.inj r'
theorem Inv.tuple_inj (I:Inv X aa U H s) (h:SqT X.K H a xs) (h':SqT X.K H a ys):xs=ys:=by
 obtain ⟨ae,r,⟨o,e,_,n,d⟩,_⟩:=I.tuple h
 obtain ⟨its',r',⟨o',e',_,n',d'⟩,_⟩:=I.tuple h'
 rw [e] at e';cases e'
 rw [d] at d'
 injection d' with d1 _
 have:ae=its':=by simpa using congrArg toList d1
 subst this
 exact r.inj r'
end
noncomputable abbrev Cx.wish (X:Cx) (E:Value->Shared->Prop):Cx:={ X with xe:=E }
noncomputable abbrev Cx.nox (X:Cx):Cx:=X.wish λ_ _=>False
theorem Cx.Ok.wish {X:Cx} (ok:X.Ok) (E:Value->Shared->Prop):(X.wish E).Ok :=
 ⟨ok.mod,ok.kind,ok.glob,ok.blt,ok.above,ok.inj,ok.has,ok.cab,ok.hd,ok.frames,ok.stk,ok.exf,ok.bs,ok.bsz,ok.noex,ok.exfs,ok.funs,ok.frf⟩
theorem Cx.Ok.unwish {X:Cx}{E:Value->Shared->Prop} (ok:(X.wish E).Ok):X.Ok :=
 ⟨ok.mod,ok.kind,ok.glob,ok.blt,ok.above,ok.inj,ok.has,ok.cab,ok.hd,ok.frames,ok.stk,ok.exf,ok.bs,ok.bsz,ok.noex,ok.exfs,ok.funs,ok.frf⟩
section
variable {X:Cx}{aa:List (Addr×Obj)}{U:St}{H:Hp}{s:Shared}{E:Value->Shared->Prop}
theorem Inv.wish (I:Inv X aa U H s) (E:Value->Shared->Prop):Inv (X.wish E) aa U H s:=⟨I.ok.wish E,I.os,I.bare,I.base,I.loc,I.cell,I.free,I.freeC,I.pin,I.hok,I.len⟩
theorem Inv.unwish (I:Inv (X.wish E) aa U H s):Inv X aa U H s:=⟨I.ok.unwish,I.os,I.bare,I.base,I.loc,I.cell,I.free,I.freeC,I.pin,I.hok,I.len⟩
theorem SP.unwish {D:Ends}{f:Flow}{s':Shared} (h:SP (X.wish E) aa D f s'):SP X aa D f s':=by
 cases f with
 | next=>obtain ⟨af,H',I,q⟩:=h;exact ⟨af,H',I.unwish,q⟩
 | brk=>obtain ⟨af,H',I,q⟩:=h;exact ⟨af,H',I.unwish,q⟩
 | cont=>obtain ⟨af,H',I,q⟩:=h;exact ⟨af,H',I.unwish,q⟩
 | ret u=>obtain ⟨v,af,H',I,r,q⟩:=h;exact ⟨v,af,H',I.unwish,r,q⟩
theorem PE.nox {e:Expr}{t:TE} (h:PE X.nox e t):PE X e t:=λaa s U H Q I hw =>
 wpAny_mono (h aa s U H Q (I.wish _) hw) (λ_ _ ⟨v,H',I',r,q⟩=>⟨v,H',I'.unwish,r,q⟩) λ_ _ z=>elim z
theorem PSs.nox {st:List Stmt}{t:TS} (h:PSs X.nox st t):PSs X st t:=λaa s U H D I hw =>
 wpAny_mono (h aa s U H D (I.wish _) hw) (λ_ _ q=>q.unwish) λ_ _ z=>elim z
end
section
variable {X:Cx}{st:Stmt}{aw:List Stmt}{t u:TS}{e:Expr}{te:TE}{pos:Pos}
noncomputable def tNext:TS:=λD U H=>D.nx U H
noncomputable def tSeq (t u:TS):TS:=λD U H=>t { D with nx:=u D } U H
theorem A':PSs X [] tNext:=λ_ _ U H _ I h=>wpAny_execs_nil ⟨U,H,I,h⟩
theorem qA (h1:PS X st t) (h2:PSs X aw u):PSs X (st::aw) (tSeq t u):=by
 intro aa s U H D I h
 refine wpAny_execs_cons (thn (h1 aa s U H { D with nx:=u D } I h) λf s1 q=>?_)
 cases f with
 | next =>
  obtain ⟨af,H',I',q⟩:=q
  exact h2 aa s1 af H' D I' q
 | ret v=>exact q
 | brk=>exact q
 | cont=>exact q
theorem sF (h1:PS X st t):PSs X [st] t:=by
 intro aa s U H D I h
 refine wpAny_execs_cons (thn (h1 aa s U H D I h) λf s1 q=>?_)
 cases f with
 | next=>exact wpAny_execs_nil q
 | ret v=>exact q
 | brk=>exact q
 | cont=>exact q
theorem Inv.quiet {aa:List (Addr×Obj)}{U:St}{H:Hp}{s:Shared} (I:Inv X aa U H s):interactive X.env=false:=by simp [interactive,I.ok.kind]
noncomputable def tDrop (te:TE):TS:=λD U H=>te U H λ_ H1=>D.nx U H1
theorem oy (he:PE X e te) (hs:swapsWith e none pos.line X.env=pure false:=by rfl):PS X (.Expr e pos) (tDrop te):=by
 intro aa s U H D I h
 exact wpAny_Expr_any (thn (he aa s U H _ I h) λv s1 ⟨x,H1,I1,r1,q1⟩=>⟨U,H1,I1,q1⟩) I.quiet hs
noncomputable def tRet (te:TE):TS:=λD U H=>te U H D.rt
theorem tH (he:PE X e te):PS X (.Return (some e) pos) (tRet te):=by
 intro aa s U H D I h
 exact wpAny_Return_some (thn (he aa s U H _ I h) λv s1 ⟨x,H1,I1,r1,q1⟩=>⟨x,U,H1,I1,r1,q1⟩)
noncomputable def tIfS (c:TT) (t u:TS):TS:=λD U H=>c U H λb H1=>if b=true then t D U H1 else u D U H1
theorem tF {c:Expr}{a b:List Stmt}{tc:TT} (hc:PT X c tc) (ha:PSs X a t) (hb:PSs X b u):PS X (.If c a b pos) (tIfS tc t u):=by
 intro aa s U H D I h
 refine wpAny_If (thn (hc aa s U H _ I h) λd s1 ⟨H1,I1,q1⟩=>?_)
 cases d with
 | true=>exact ha aa s1 U H1 D I1 q1
 | false=>exact hb aa s1 U H1 D I1 q1
noncomputable def tNever:TS:=λ_ _ _=>False
theorem AH:PS X st tNever:=λ_ _ _ _ _ _ h=>h.elim
end
abbrev TG:=V->St->Hp->(St->Hp->Prop)->Prop
abbrev TGs:=List V->St->Hp->(St->Hp->Prop)->Prop
def PG (X:Cx) (eJ:Expr) (t:TG):Prop :=
 ∀ (aa:List (Addr×Obj)) (s:Shared) (U:St) (H:Hp) (v:V) (u:Value) (Q:St->Hp->Prop),Inv X aa U H s->RelV v u->t v U H Q →
  wpAny (model X.prog X.w) X.A (assign eJ X.env u) (λ_ s'=>∃ af H',Inv X aa af H' s'/\Q af H') X.xe s
def PGs (X:Cx) (ts:List Expr) (t:TGs):Prop :=
 ∀ (aa:List (Addr×Obj)) (s:Shared) (U:St) (H:Hp) (vs:List V) (us:List Value) (Q:St->Hp->Prop),Inv X aa U H s->Vals vs us->t vs U H Q →
  wpAny (model X.prog X.w) X.A (assignInOrder ((assignEach ts X.env).map (·.2)) us) (λ_ s'=>∃ af H',Inv X aa af H' s'/\Q af H') X.xe s
abbrev TSet:=V->V->V->Hp->(Hp->Prop)->Prop
def PSet (X:Cx) (t:TSet):Prop :=
 ∀ (aa:List (Addr×Obj)) (s:Shared) (U:St) (H:Hp) (o i v:V) (ov iv u:Value) (Q:Hp->Prop),Inv X aa U H s->RelV o ov->RelV i iv->RelV v u->t o i v H Q →
  wpAny (model X.prog X.w) X.A (setItem ov iv u) (λ_ s'=>∃ H',Inv X aa U H' s'/\Q H') X.xe s
section
variable {X:Cx}{pos:Pos}
noncomputable def gName (i:Nat):TG:=λv U H Q=>Q (U.set i (some v)) H
theorem xz {i:Nat}{x:Str} (hN:X.N.Nodup) (hi:X.N[i]?=some x) (hx:Loc X.env.scope x) (hf:X.fn x=true\/X.env.scope.names.lookup x=some .local):PG X (.Name x pos) (gName i):=by
 intro aa s U H v u Q I r h
 exact wpAny_assign_Name (qP I hN hi hx r (λs' I'=>⟨_,H,I',h⟩) hf)
noncomputable def gNil:TGs:=λvs U H Q=>vs=[]/\Q U H
noncomputable def gCons (t:TG) (u:TGs):TGs:=λvs U H Q=>∃ v r,vs=v::r/\t v U H λaf H'=>u r af H' Q
theorem yU:PGs X [] gNil:=by
 intro aa s U H vs us Q I r h
 obtain ⟨e,h⟩:=h
 subst e
 cases r
 exact assignInOrder_nil ⟨U,H,I,h⟩
theorem wP {e:Expr}{es:List Expr}{t:TG}{u:TGs} (h1:PG X e t) (h2:PGs X es u)
  (hs:(assignEach (e::es) X.env).map (·.2)=assign e X.env::(assignEach es X.env).map (·.2):=by rfl):PGs X (e::es) (gCons t u):=by
 intro aa s U H vs us Q I r h
 obtain ⟨v,vr,e1,h⟩:=h
 subst e1
 cases r with
 | cons r rr =>
  rw [hs]
  refine assignInOrder_cons (thn (h1 aa s U H _ _ _ I r h) λ_ s1 ⟨bX,H1,I1,q1⟩=>?_)
  exact h2 aa s1 bX H1 _ _ Q I1 rr q1
noncomputable def gTup (K:PySem.W.Frag) (n:Nat) (t:TGs):TG:=λv U H Q=>∃ a xs,v=.ref a/\SqT K H a xs/\xs.length=n/\t xs U H Q
theorem wQ {es:List Expr}{k:Nat}{t:TGs}{n:Nat} (hc:X.calm=true) (h:PGs X es t)
  (hn:(assignEach es X.env).length=n:=by rfl) (fQ:(assignEach es X.env).findIdx? (·.1)=none:=by rfl):PG X (.Tuple es k pos) (gTup X.K n t):=by
 intro aa s U H v u Q I r hw
 obtain ⟨a,xs,e1,hq,hl,hw⟩:=hw
 subst e1
 cases r
 obtain ⟨ae,rv,ht,hz⟩:=I.tuple hq
 refine assign_Tuple_tuple (I.ok.hd hc) ht (by simp [hn,← hl,rv.length]) fQ λh' hx=>?_
 have I1:Inv X aa U H { s with heap:=h' }:=I.kept (t':=s.toks) λb o e=>hx b o (ne_of_lt (lt_size e)) e
 exact h aa _ U H xs _ Q I1 (by simpa using rv) hw
noncomputable def gSub (to ti:TE) (t:TSet):TG:=λv U H Q=>to U H λo H1=>ti U H1 λi H2=>t o i v H2 λH3=>Q U H3
theorem wT {o i:Expr}{to ti:TE}{t:TSet} (ho:PE X o to) (hi:PE X i ti) (hs:PSet X t)
  (ha:∀ v,assign (.Subscript o i pos) X.env v=(do
   let ov ← holding [v] (eval o X.env)
   let iv ← holding [v,ov] (eval i X.env)
   standAt pos
   holding [v,ov,iv] (setItem ov iv v)
   release [v,ov,iv] []):=by intro _;rfl):PG X (.Subscript o i pos) (gSub to ti t):=by
 intro aa s U H v u Q I r h
 rw [ha]
 refine wpAny_bind (wpAny_holding (thn (ho aa s U H _ I h) λov s1 ⟨x,H1,I1,r1,q1⟩=>?_))
 refine wpAny_bind (wpAny_holding (thn (hi aa s1 U H1 _ I1 q1) λiv s2 ⟨y,H2,I2,r2,q2⟩=>?_))
 refine wpAny_bind (wpAny_standAt (wpAny_bind (wpAny_holding (thn (hs aa s2 U H2 x y v ov iv u _ I2 r1 r2 r q2) λ_ s3 ⟨H3,I3,q3⟩=>?_))))
 exact wpAny_release ⟨U,H3,I3,q3⟩
noncomputable def tAsg (te:TE) (g:TG):TS:=λD U H=>te U H λx H1=>g x U H1 D.nx
theorem Au {tg e:Expr}{te:TE}{g:TG} (he:PE X e te) (hg:PG X tg g) (hs:swapsWithSole [tg] e pos.line X.env=pure false:=by rfl) (hw:swappedStores [tg] e X.env=pure none:=by rfl)
  (h1:(assignEach [tg] X.env).map (·.2)=[assign tg X.env]:=by rfl):PS X (.Assign [tg] e pos) (tAsg te g):=by
 intro aa s U H D I h
 refine wpAny_Assign_stores (thn (he aa s U H _ I h) λv s1 ⟨x,H1,I1,r1,q1⟩=>?_) hs hw
 rw [h1]
 exact thn (hg aa s1 U H1 x v _ I1 r1 q1) λ_ s2 q=>q
theorem uB {i:Nat}{x:Str}{e:Expr}{te:TE}{aO:Pos} (hN:X.N.Nodup) (hi:X.N[i]?=some x) (hx:Loc X.env.scope x) (he:PE X e te) (hs:swapsWith e (some (.Name x aO)) pos.line X.env=pure false:=by rfl) (hf:X.fn x=true\/X.env.scope.names.lookup x=some .local) :
  PS X (.Assign [.Name x aO] e pos) (tAsg te (gName i)):=by
 intro aa s U H D I h
 refine wpAny_Assign_Name (thn (he aa s U H _ I h) λv s1 ⟨y,H1,I1,r1,q1⟩=>?_) hs
 exact qP I1 hN hi hx r1 (λs2 I2=>⟨_,H1,I2,q1⟩) hf
end
structure It where
 go:Nat->Hp->Prop
 yld:Nat->Hp->V->Hp->Prop
 stop:Nat->Hp->Prop
def FpOk (X:Cx) (aa:List (Addr×Obj)) (H:Hp) (b:Addr):Prop :=
 H b=none/\b≠X.env.locals/\b∉X.fs/\(b∈X.ex\/X.s₀.heap.objs.size<=b)/\(∀ x c,X.env.cells.lookup x=some c->c≠b)/\∀ p∈X.pn++aa,p.1≠b
theorem Inv.fpOk {X:Cx}{aa:List (Addr×Obj)}{U:St}{H H':Hp}{s:Shared}{b:Addr} (I:Inv X aa U H s) (hb:s.heap.objs.size<=b) (hn:H' b=none):FpOk X aa H' b:=by
 refine ⟨hn,ne_of_gt (lt_of_lt_of_le I.lt hb),I.nofs hb,.inr (le_trans I.sz hb),λx c e z=>?_,λp hp z=>?_⟩
 ·obtain ⟨v,q⟩:=I.cell x c e
  exact absurd (lt_of_lt_of_le q.lt (by rw [z];exact hb)) (lt_irrefl _)
 ·exact absurd (lt_of_lt_of_le (lt_size (I.pin p hp).1) (by rw [z];exact hb)) (lt_irrefl _)
structure Turn (P:Program) (w:World) (K:PySem.W.Frag) (tg:Expr) (J:It) (fp:List Addr) (it:Addr) (tn:Nat->Heap->Prop):Prop where
 mem:it∈fp
 obj:∀ i h,tn i h->∀ b∈fp,∃ o,h.get? b=some o/\∀ v,o.data≠.cell v
 keep:∀ i h h',tn i h->(∀ b∈fp,∀ o,h.get? b=some o->h'.get? b=some o)->tn i h'
 item:∀ (X:Cx),X.prog=P->X.w=w->X.K=K->X.calm=true->∀ (i:Nat) (aa:List (Addr×Obj)) (s:Shared) (U:St) (H:Hp) (E:Value->Shared->Prop),Inv X aa U H s->(∀ b∈fp,FpOk X aa H b)->tn i s.heap->J.go i H →
  wpAny (model P w) X.A (pyNext (.ref it)) (λr s1=>∃ u,r=some u ∧
   wpAny (model P w) X.A (letOwnedTupleGo tg (.ref it) u) (λ_ s2=>∃ x H',Inv X aa U H' s2/\RelV x u/\J.yld i H x H'/\tn (i+1) s2.heap/\∀ b∈fp,H' b=none) E s1) E s
 done:∀ (X:Cx),X.prog=P->X.w=w->X.K=K->X.calm=true->∀ (i:Nat) (aa:List (Addr×Obj)) (s:Shared) (U:St) (H:Hp) (E:Value->Shared->Prop),Inv X aa U H s->(∀ b∈fp,FpOk X aa H b)->tn i s.heap->J.stop i H →
  wpAny (model P w) X.A (pyNext (.ref it)) (λr s1=>r=none/\Inv X aa U H s1) E s
 self:∀ (A:Around) (i:Nat) (s:Shared) (Q:Value->Shared->Prop) (E:Value->Shared->Prop),tn i s.heap->Q (.ref it) s->wpAny (model P w) A (pyIter (.ref it)) Q E s
abbrev TI:=St->Hp->(It->Hp->Prop)->Prop
def PIE (X:Cx) (aa:List (Addr×Obj)) (U:St) (tg:Expr) (R:It->Hp->Prop) (eK:Value) (s2:Shared):Prop :=
 ∃ (it:Addr) (fp:List Addr) (tn:Nat->Heap->Prop) (J:It) (H':Hp),eK=.ref it/\Inv X aa U H' s2/\Turn X.prog X.w X.K tg J fp it tn/\tn 0 s2.heap/\(∀ b∈fp,FpOk X aa H' b)/\R J H'
def PI (X:Cx) (tg iter:Expr) (wi:TI):Prop :=
 ∀ (aa:List (Addr×Obj)) (s:Shared) (U:St) (H:Hp) (R:It->Hp->Prop),Inv X aa U H s->wi U H R →
  wpAny (model X.prog X.w) X.A (eval iter X.env) (λv s1=>wpAny (model X.prog X.w) X.A (pyIter v) (PIE X aa U tg R) X.xe s1) X.xe s
theorem qI {M:Model}{A:Around}{E:Value->Shared->Prop}{s:Shared}{tg:Expr}{it:Addr}{u:Value}{o:Obj}{n:String}{vs:Array Value}{Q:Unit->Shared->Prop} (ho:s.heap.get? it=some o) (hc:o.cls=.type n) (hd:o.data=.fields vs)
  (hn:["enumerate", "zip", "dict_itemiterator", "dict_reverseitemiterator", "odict_iterator", "itertools.zip_longest", "itertools.pairwise"].contains n=false) (hQ:Q () s):wpAny M A (letOwnedTupleGo tg (.ref it) u) Q E s:=by
 unfold letOwnedTupleGo
 cases tg<;>first
  | exact wpAny_pure hQ
  | (cases u<;>first
    | exact wpAny_pure hQ
    | (refine wpAny_bind (wpAny_load ho ?_)
       rw [hc,hd]
       show wpAny M A (if (["enumerate", "zip", "dict_itemiterator", "dict_reverseitemiterator", "odict_iterator", "itertools.zip_longest", "itertools.pairwise"].contains n&&vs[0]? == some (rawInt _))=true then _ else _) Q E s
       rw [if_neg (by intro h;rw [hn,Bool.false_and] at h;cases h)]
       exact wpAny_pure hQ))
noncomputable def Itl (K:PySem.W.Frag) (a:Addr):It :=
 ⟨λi H=>∃ xs x,SqL K H a xs/\xs[i]?=some x,λi H x H'=>H'=H/\∀ xs,SqL K H a xs->xs[i]?=some x,λi H=>∃ xs,SqL K H a xs/\xs.length<=i⟩
noncomputable def Itt (K:PySem.W.Frag) (a:Addr):It :=
 ⟨λi H=>∃ xs x,SqT K H a xs/\xs[i]?=some x,λi H x H'=>H'=H/\∀ xs,SqT K H a xs->xs[i]?=some x,λi H=>∃ xs,SqT K H a xs/\xs.length<=i⟩
noncomputable def Itr (lo:Int) (n:Nat):It:=⟨λi _=>i < n,λi H x H'=>H'=H/\x=.int (lo+i),λi _=>n<=i⟩
theorem B2 {P:Program}{w:World}{K:PySem.W.Frag}{tg:Expr} (a it:Addr):Turn P w K tg (Itl K a) [it] it (λi h=>h.IsListIter it a i) where
 mem:=by simp
 obj:=λi h st b hb=>by
  have e:b=it:=by simpa using hb
  subst e
  obtain ⟨o,e,c,d⟩:=st
  exact ⟨o,e,λv z=>by rw [d] at z;cases z⟩
 keep:=λi h h' st k=>st.at λo e=>k it (by simp) o e
 item:=by
  intro X hP hw hK hc i aa s U H E I hf st hg
  subst hP hw hK
  obtain ⟨xs,x,hq,hx⟩:=hg
  obtain ⟨ae,rv,p,hz⟩:=I.list hq
  obtain ⟨u,hu,ru⟩:=rv.get hx
  obtain ⟨f0,f1,f2,f3,f4,f5⟩:=hf it (by simp)
  refine wpAny_pyNext_list_item st p.isList (x:=u) (by simpa using hu) λh' cq sb=>?_
  have I1:Inv X aa U H { s with heap:=h' }:=I.turned (t':=s.toks) (λb o hb e=>(sb.2 b hb).trans e) f0 f1 f3 f4 f5
  obtain ⟨o,e,c,d⟩:=id cq
  exact ⟨u,rfl,qI (s:={ s with heap:=h' }) e c d (by decide) ⟨x,H,I1,ru,⟨rfl,λys hy=>by rw [I.list_inj hy hq];exact hx⟩,cq,λb hb=>(hf b hb).1⟩⟩
 done:=by
  intro X hP hw hK hc i aa s U H E I hf st hg
  subst hP hw hK
  obtain ⟨xs,hq,hx⟩:=hg
  obtain ⟨ae,rv,p,hz⟩:=I.list hq
  obtain ⟨f0,f1,f2,f3,f4,f5⟩:=hf it (by simp)
  have hl:=rv.length
  exact wpAny_pyNext_list_end (I.ok.hd hc) st p.isList (by simp;omega) λh' eb=>⟨rfl,I.turned (t':=s.toks) (λb o hb e=>eb b o hb e) f0 f1 f3 f4 f5⟩
 self:=λ_ _ _ _ _ st h=>wpAny_pyIter_listiter st h
theorem Ag {P:Program}{w:World}{K:PySem.W.Frag}{tg:Expr} (a it:Addr):Turn P w K tg (Itt K a) [it] it (λi h=>h.IsTupleIter it a i) where
 mem:=by simp
 obj:=λi h st b hb=>by
  have e:b=it:=by simpa using hb
  subst e
  obtain ⟨o,e,c,d⟩:=st
  exact ⟨o,e,λv z=>by rw [d] at z;cases z⟩
 keep:=λi h h' st k=>st.at λo e=>k it (by simp) o e
 item:=by
  intro X hP hw hK hc i aa s U H E I hf st hg
  subst hP hw hK
  obtain ⟨xs,x,hq,hx⟩:=hg
  obtain ⟨ae,rv,p,hz⟩:=I.tuple hq
  obtain ⟨u,hu,ru⟩:=rv.get hx
  obtain ⟨f0,f1,f2,f3,f4,f5⟩:=hf it (by simp)
  refine wpAny_pyNext_tuple_item st (show s.heap.IsTuple a ae.toArray from p) (x:=u) (by simpa using hu) λh' cq sb=>?_
  have I1:Inv X aa U H { s with heap:=h' }:=I.turned (t':=s.toks) (λb o hb e=>(sb.2 b hb).trans e) f0 f1 f3 f4 f5
  obtain ⟨o,e,c,d⟩:=id cq
  exact ⟨u,rfl,qI (s:={ s with heap:=h' }) e c d (by decide) ⟨x,H,I1,ru,⟨rfl,λys hy=>by rw [I.tuple_inj hy hq];exact hx⟩,cq,λb hb=>(hf b hb).1⟩⟩
 done:=by
  intro X hP hw hK hc i aa s U H E I hf st hg
  subst hP hw hK
  obtain ⟨xs,hq,hx⟩:=hg
  obtain ⟨ae,rv,p,hz⟩:=I.tuple hq
  obtain ⟨f0,f1,f2,f3,f4,f5⟩:=hf it (by simp)
  have hl:=rv.length
  exact wpAny_pyNext_tuple_end (I.ok.hd hc) st (show s.heap.IsTuple a ae.toArray from p) (by simp;omega) λh' eb=>⟨rfl,I.turned (t':=s.toks) (λb o hb e=>eb b o hb e) f0 f1 f3 f4 f5⟩
 self:=λ_ _ _ _ _ st h=>wpAny_pyIter_tupleiter st h
theorem xZ {P:Program}{w:World}{K:PySem.W.Frag}{tg:Expr} (it:Addr) (lo:Int) (n:Nat):Turn P w K tg (Itr lo n) [it] it (λi h=>IsRangeIter h it (lo+(i:Nat)*1) ((n:Int) - (i:Nat)) 1) where
 mem:=by simp
 obj:=λi h st b hb=>by
  have e:b=it:=by simpa using hb
  subst e
  exact ⟨_,st,λv z=>by
   have z':fields _=Data.cell v:=z
   cases z'⟩
 keep:=λi h h' st k=>k it (by simp) _ st
 item:=by
  intro X hP hw hK hc i aa s U H E I hf st hg
  subst hP hw hK
  obtain ⟨f0,f1,f2,f3,f4,f5⟩:=hf it (by simp)
  have W:=Walks.range (prog:=X.prog) (w:=X.w) (I.ok.hd hc) it lo 1 n
  refine W.item i s _ _ hg st λv h' tk hv cq kk=>?_
  obtain ⟨t,rfl⟩:=hv
  have I1:Inv X aa U H { s with heap:=h',toks:=tk }:=I.turned (λb o hb e=>kk b o (by simpa using hb) e) f0 f1 f3 f4 f5
  refine ⟨_,rfl,qI (s:={ s with heap:=h',toks:=tk }) (n := "range_iterator") cq rfl rfl (by decide) ⟨.int (lo+i),H,I1,⟨t,?_⟩,⟨rfl,rfl⟩,cq,λb hb=>(hf b hb).1⟩⟩
  rw [Int.mul_one]
 done:=by
  intro X hP hw hK hc i aa s U H E I hf st hg
  subst hP hw hK
  obtain ⟨f0,f1,f2,f3,f4,f5⟩:=hf it (by simp)
  exact wpAny_pyNext_range_end (I.ok.hd hc) st (by have:n<=i:=hg;omega) λh' eb=>⟨rfl,I.turned (t':=s.toks) (λb o hb e=>eb b o hb e) f0 f1 f3 f4 f5⟩
 self:=λ_ _ _ _ _ st h=>wpAny_pyIter_rangeiter st h
section
variable {X:Cx}{tg:Expr}
theorem v4 {aa:List (Addr×Obj)}{U:St}{H:Hp}{s:Shared}{R:It->Hp->Prop}{E:Value->Shared->Prop}{lo hi:Int}{t u v:Tok}{tk:Nat} (I:Inv X aa U H s) (h1:-(2 ^ 62)<=lo) (h2:lo < 2 ^ 62) (h3:-(2 ^ 62)<=hi) (h4:hi < 2 ^ 62)
  (q:R (Itr lo (hi - lo).toNat) H):wpAny (model X.prog X.w) X.A (pyIter (.ref s.heap.objs.size)) (PIE X aa U tg R) E { s with heap:=s.heap.push { cls:=.type "range", data:=.fields #[.int lo t,.int hi u,.int 1 v] },toks:=tk }:=by
 refine wpAny_pyIter_range (IsRange.new ..) (small_one h1 h2 h3 h4) ?_
 have I1:Inv X aa U H { s with heap:=s.heap.push { cls:=.type "range", data:=.fields #[.int lo t,.int hi u,.int 1 v] },toks:=tk }:=I.kept λb o e=>get?_push_of_some _ e
 refine ⟨(s.heap.push { cls:=.type "range", data:=.fields #[.int lo t,.int hi u,.int 1 v] }).objs.size,[(s.heap.push { cls:=.type "range", data:=.fields #[.int lo t,.int hi u,.int 1 v] }).objs.size],_,_,H,rfl,
  I1.kept (t':=tk) λb o e=>get?_push_of_some _ e,xZ _ lo (hi - lo).toNat,?_,λb hb=>?_,q⟩
 ·have e1:lo+((0:Nat):Int)*1=lo:=by simp
  have e2:(((hi - lo).toNat:Nat):Int) - ((0:Nat):Int)=rangeSize lo hi 1:=by rw [rangeSize_one];split<;>omega
  show IsRangeIter _ _ (lo+((0:Nat):Int)*1) ((((hi - lo).toNat:Nat):Int) - ((0:Nat):Int)) 1
  rw [e1,e2]
  exact get?_push_size _ rfl
 ·have e:b=(s.heap.push { cls:=.type "range", data:=.fields #[.int lo t,.int hi u,.int 1 v] }).objs.size:=by simpa using hb
  subst e
  exact I1.fpOk (le_refl _) (I1.hok.fresh (le_refl _))
noncomputable def iRng1 (ta:TA):TI:=λU H R=>ta U H λvs H1=>∃ j:Int,vs=[.int j]/\-(2 ^ 62)<=j/\j < 2 ^ 62/\R (Itr 0 j.toNat) H1
noncomputable def iRng2 (ta:TA):TI:=λU H R=>ta U H λvs H1=>∃ i j:Int,vs=[.int i,.int j]/\(-(2 ^ 62)<=i/\i < 2 ^ 62/\-(2 ^ 62)<=j/\j < 2 ^ 62)/\R (Itr i (j - i).toNat) H1
theorem yk {a:Expr}{ta:TA}{p pos:Pos} (hg:Gl X "range") (hm:X.mg "range"=none) (ha:PA X [a] ta) (hs:starEach [a] X.env=[(false,eval a X.env)]:=by rfl):PI X tg (.Call (.Name "range" p) [a] [] pos) (iRng1 ta):=by
 intro aa s U H R I h
 refine Call_ (nw I hg hm boot_range (PyProof.Rows.callWith_type1 (thn (ha pos aa s U H _ I h) λus s1 ⟨vs,H1,I1,r1,q1⟩=>?_) hs rfl))
 obtain ⟨j,e,q1,q2,q⟩:=q1
 subst e
 cases r1 with
 | cons r rr =>
  cases rr
  obtain ⟨t,rfl⟩:=r
  exact call_range_1 (v4 I1 (by omega) (by omega) q1 q2 (by simpa using q))
theorem yh {a b:Expr}{ta:TA}{p pos:Pos} (hg:Gl X "range") (hm:X.mg "range"=none) (ha:PA X [a,b] ta) (hs:starEach [a,b] X.env=[(false,eval a X.env),(false,eval b X.env)]:=by rfl) (bw:starEach [b] X.env=[(false,eval b X.env)]:=by rfl) :
  PI X tg (.Call (.Name "range" p) [a,b] [] pos) (iRng2 ta):=by
 intro aa s U H R I h
 refine Call_ (nw I hg hm boot_range (PyProof.Rows.callWith_type1 (thn (ha pos aa s U H _ I h) λus s1 ⟨vs,H1,I1,r1,q1⟩=>?_) (by rw [hs,bw]) (by rw [bw];rfl)))
 obtain ⟨i,j,e,⟨q1,q2,q3,q4⟩,q⟩:=q1
 subst e
 cases r1 with
 | cons r rr =>
  cases rr with
  | cons r' rr =>
   cases rr
   obtain ⟨t,rfl⟩:=r
   obtain ⟨t',rfl⟩:=r'
   exact call_range_2 (v4 I1 q1 q2 q3 q4 q)
noncomputable def tFor (wi:TI) (g:TG) (tb:TS):TS:=λD U H=>wi U H λJ H1=>∃ W:Nat->Nat->St->Hp->Prop,(∃ m,W 0 m U H1)/\∀ i m U H,W i m U H →
 (J.stop i H/\D.nx U H)\/(J.go i H/\∃ N:St->Hp->Prop,(∀ af H',N af H'->∃ m',m' < m/\W (i+1) m' af H')/\∀ x H',J.yld i H x H'->g x U H' λaL H2=>tb { D with nx:=N,ct:=N,bk:=D.nx } aL H2)
noncomputable def pinsAt (fp:List Addr) (h:Heap):List (Addr×Obj):=fp.filterMap λb=>(h.get? b).map λo=>(b,o)
theorem qB {fp:List Addr}{h:Heap}{b:Addr}{o:Obj} (hb:b∈fp) (e:h.get? b=some o):(b,o)∈pinsAt fp h:=List.mem_filterMap.mpr ⟨b,hb,by rw [e];rfl⟩
theorem yW {fp:List Addr}{h:Heap}{p:Addr×Obj} (hp:p∈pinsAt fp h):p.1∈fp/\h.get? p.1=some p.2:=by
 obtain ⟨b,hb,e⟩:=List.mem_filterMap.mp hp
 cases q:h.get? b with
 | none=>rw [q] at e;cases e
 | some o =>
  rw [q] at e
  have e':(b,o)=p:=Option.some.inj e
  subst e'
  exact ⟨hb,q⟩
theorem Inv.pinned {aa:List (Addr×Obj)}{U:St}{H:Hp}{s:Shared}{fp:List Addr} (I:Inv X aa U H s) (hf:∀ b∈fp,FpOk X aa H b) (ho:∀ b∈fp,∃ o,s.heap.get? b=some o/\∀ v,o.data≠.cell v):Inv X (aa++pinsAt fp s.heap) U H s :=
 I.pins_of λp hp=>(mem_append.mp hp).elim (λz=>I.pin p (mem_append_right _ z)) λz=>by
  obtain ⟨hb,e⟩:=yW z
  obtain ⟨f0,f1,f2,_⟩:=hf p.1 hb
  obtain ⟨o,e',d⟩:=ho p.1 hb
  rw [e] at e';cases e'
  exact ⟨e,f0,f1,f2,d⟩
theorem Inv.unpinned {aa pl:List (Addr×Obj)}{U:St}{H:Hp}{s:Shared} (I:Inv X (aa++pl) U H s):Inv X aa U H s:=I.pins_of λp hp=>I.pin p (mem_append_right _ (mem_append_left _ hp))
theorem zJ {iter:Expr}{body:List Stmt}{wi:TI}{g:TG}{tb:TS}{pos:Pos} (hp:PassesOwn (model X.prog X.w) X.A X.env X.xe) (hc:X.calm=true) (hi:PI X tg iter wi) (hg:PG X tg g) (hb:PSs X body tb)
  (hs:∀ x,foldedSetIterable iter X.env x=pure x:=by intro _;rfl):PS X (.For tg iter body [] pos) (tFor wi g tb):=by
 intro aa s U H D I h
 refine wpAny_For (thn (hi aa s U H _ I h) λv s1 h1=>thn h1 λeK s2 h2=>?_) hs
 obtain ⟨it,fp,tn,J,H2,e,I2,T,cr,f2,W,⟨m0,w0⟩,turn⟩:=h2
 subst e
 -- what stays true of the iterator's objects through the dG
 have bN:∀ {H':Hp},(∀ b∈fp,H' b=none)->∀ b∈fp,FpOk X aa H' b:=λhn b hb=>⟨hn b hb,(f2 b hb).2⟩
 refine codeAny_forLoop_any (λn s'=>∃ i af H',Inv X aa af H' s'/\tn i s'.heap/\(∀ b∈fp,H' b=none)/\W i n af H') ?_ m0 ⟨0,U,H2,I2,cr,λb hb=>(f2 b hb).1,w0⟩
 rintro n s3 ⟨i,dH,H3,I3,dg,il,w3⟩
 rcases turn i n dH H3 w3 with ⟨stop,qn⟩ | ⟨go,N,hN,step⟩
 ·refine wpAny_passesOwn hp (thn (T.done X rfl rfl rfl hc i aa s3 dH H3 X.xe I3 (bN il) dg stop) λr s4 ⟨hr,I4⟩=>?_)
  subst hr
  exact wpAny_execs_nil ⟨dH,H3,I4,qn⟩
 ·refine wpAny_passesOwn hp (thn (T.item X rfl rfl rfl hc i aa s3 dH H3 X.xe I3 (bN il) dg go) λr s4 ⟨u,hr,h4⟩=>?_)
  subst hr
  refine wpAny_passesOwn hp (thn h4 λ_ s5 ⟨x,H5,I5,r5,y5,dh,eL⟩=>?_)
  have jB:=I5.pinned (bN eL) (T.obj _ _ dh)
  refine wpAny_passesOwn hp (thn (hg _ s5 dH H5 x u _ jB r5 (step x H5 y5)) λ_ s6 ⟨jC,H6,I6,q6⟩=>?_)
  refine wpAny_passesOwn hp (thn (hb _ s6 jC H6 _ I6 q6) λf s7 q7=>?_)
  have again:∀ {bO:St}{H7:Hp},Inv X (aa++pinsAt fp s5.heap) bO H7 s7->N bO H7->∃ m,m < n/\∃ i af H',Inv X aa af H' s7/\tn i s7.heap/\(∀ b∈fp,H' b=none)/\W i m af H':=λ{bO H7} I7 n7=>by
   obtain ⟨m',hm,w7⟩:=hN bO H7 n7
   refine ⟨m',hm,i+1,bO,H7,I7.unpinned,T.keep _ _ _ dh λb hb o e=>(I7.pin (b,o) (mem_append_right _ (mem_append_right _ (qB hb e)))).1,λb hb=>?_,w7⟩
   obtain ⟨o,e,d⟩:=T.obj _ _ dh b hb
   exact (I7.pin (b,o) (mem_append_right _ (mem_append_right _ (qB hb e)))).2.1
  cases f with
  | next=>obtain ⟨bO,H7,I7,n7⟩:=q7;exact again I7 n7
  | cont=>obtain ⟨bO,H7,I7,n7⟩:=q7;exact again I7 n7
  | brk=>obtain ⟨bO,H7,I7,q7⟩:=q7;exact ⟨bO,H7,I7.unpinned,q7⟩
  | ret v=>obtain ⟨x7,bO,H7,I7,r7,q7⟩:=q7;exact ⟨x7,bO,H7,I7.unpinned,r7,q7⟩
end
abbrev R2:=V->V->Hp->VK->Prop
def OpR (X:Cx) (f:Value->Value->Sem Value) (r:R2):Prop :=
 ∀ (aa:List (Addr×Obj)) (s:Shared) (U:St) (H:Hp) (x y:V) (v u:Value) (Q:VK),Inv X aa U H s->RelV x v->RelV y u->r x y H Q →
  wpAny (model X.prog X.w) X.A (f v u) (EP X aa U Q) X.xe s
def UnR (X:Cx) (f:Value->Sem Value) (r:V->Hp->VK->Prop):Prop :=
 ∀ (aa:List (Addr×Obj)) (s:Shared) (U:St) (H:Hp) (x:V) (v:Value) (Q:VK),Inv X aa U H s->RelV x v->r x H Q →
  wpAny (model X.prog X.w) X.A (f v) (EP X aa U Q) X.xe s
def CallR (X:Cx) (f:Value) (r:List V->Hp->VK->Prop):Prop :=
 ∀ (aa:List (Addr×Obj)) (s:Shared) (U:St) (H:Hp) (xs:List V) (us:List Value) (Q:VK),Inv X aa U H s->Vals xs us->r xs H Q →
  wpAny (model X.prog X.w) X.A (call f us) (EP X aa U Q) X.xe s
noncomputable def tOp (r:R2) (ta tb:TE):TE:=λU H Q=>ta U H λx H1=>tb U H1 λy H2=>r x y H2 Q
noncomputable def tUn (r:V->Hp->VK->Prop) (ta:TE):TE:=λU H Q=>ta U H λx H1=>r x H1 Q
noncomputable def rI (C:Int->Int->Prop) (g:Int->Int->V):R2:=λx y H Q=>∃ i j,x=.int i/\y=.int j/\C i j/\Q (g i j) H
noncomputable def rI0 (g:Int->Int->V):R2:=λx y H Q=>∃ i j,x=.int i/\y=.int j/\Q (g i j) H
def rU (g:Int->V):V->Hp->VK->Prop:=λx H Q=>∃ i,x=.int i/\Q (g i) H
section
variable {X:Cx}{a b c:Expr}{ta tb tc:TE}{pos:Pos}
theorem binT (ha:PE X a ta) (hb:PE X b tb){aa:List (Addr×Obj)}{s:Shared}{U:St}{H:Hp}{R:V->V->Hp->Prop} (I:Inv X aa U H s)
  (h:ta U H λx H1=>tb U H1 λy H2=>R x y H2){Q:Value->Shared->Prop}{f:Value->Value->Sem Value}
  (hf:∀ v u s2 x y H2,Inv X aa U H2 s2->RelV x v->RelV y u->R x y H2->wpAny (model X.prog X.w) X.A (f v u) Q X.xe s2) :
  wpAny (model X.prog X.w) X.A (eval a X.env) (λv al=>wpAny (model X.prog X.w) X.A (eval b X.env) (λu im=>wpAny (model X.prog X.w) X.A (f v u) Q X.xe im) X.xe al) X.xe s:=by
 refine thn (ha aa s U H _ I h) λv s1 ⟨x,H1,I1,r1,q1⟩=>?_
 refine thn (hb aa s1 U H1 _ I1 q1) λu s2 ⟨y,H2,I2,r2,q2⟩=>?_
 exact hf v u s2 x y H2 I2 r1 r2 q2
theorem vd {op:Operator}{r:R2} (ho:OpR X (binaryOp op) r) (ha:PE X a ta) (hb:PE X b tb):PE X (.BinOp a op b pos) (tOp r ta tb):=by
 intro aa s U H Q I h
 exact wpAny_BinOp (binT ha hb I h λv u s2 x y H2 I2 rx ry q=>ho aa s2 U H2 x y v u Q I2 rx ry q)
theorem wf {op:UnaryOp}{r:V->Hp->VK->Prop} (ho:UnR X (unaryOp op) r) (ha:PE X a ta):PE X (.UnaryOp op a pos) (tUn r ta):=by
 intro aa s U H Q I h
 exact UnaryOp_ (thn (ha aa s U H _ I h) λv s1 ⟨x,H1,I1,r1,q1⟩=>ho aa s1 U H1 x v Q I1 r1 q1)
theorem opI {f:Value->Value->Sem Value}{C:Int->Int->Prop}{g:Int->Int->Int}
  (rule:∀ (i j:Int) (t u:Tok) (s:Shared) (Q:Value->Shared->Prop) (E:Value->Shared->Prop),C i j->Q (.int (g i j) s.toks) { s with toks:=s.toks+1 }->wpAny (model X.prog X.w) X.A (f (.int i t) (.int j u)) Q E s) :
  OpR X f (rI C λi j=>.int (g i j)):=by
 intro aa s U H x y v u Q I rx ry h
 obtain ⟨i,j,rfl,rfl,hc,q⟩:=h
 obtain ⟨t,rfl⟩:=rx
 obtain ⟨t',rfl⟩:=ry
 exact rule i j t t' s _ _ hc ⟨.int (g i j),H,I.tok _,⟨_,rfl⟩,q⟩
theorem opI0 {f:Value->Value->Sem Value}{g:Int->Int->Int}
  (rule:∀ (i j:Int) (t u:Tok) (s:Shared) (Q:Value->Shared->Prop) (E:Value->Shared->Prop),Q (.int (g i j) s.toks) { s with toks:=s.toks+1 }->wpAny (model X.prog X.w) X.A (f (.int i t) (.int j u)) Q E s) :
  OpR X f (rI0 λi j=>.int (g i j)):=by
 intro aa s U H x y v u Q I rx ry h
 obtain ⟨i,j,rfl,rfl,q⟩:=h
 obtain ⟨t,rfl⟩:=rx
 obtain ⟨t',rfl⟩:=ry
 exact rule i j t t' s _ _ ⟨.int (g i j),H,I.tok _,⟨_,rfl⟩,q⟩
theorem opB0 {f:Value->Value->Sem Value}{g:Int->Int->Bool}
  (rule:∀ (i j:Int) (t u:Tok) (s:Shared) (Q:Value->Shared->Prop) (E:Value->Shared->Prop),Q (.bool (g i j)) s->wpAny (model X.prog X.w) X.A (f (.int i t) (.int j u)) Q E s) :
  OpR X f (rI0 λi j=>.bl (g i j)):=by
 intro aa s U H x y v u Q I rx ry h
 obtain ⟨i,j,rfl,rfl,q⟩:=h
 obtain ⟨t,rfl⟩:=rx
 obtain ⟨t',rfl⟩:=ry
 exact rule i j t t' s _ _ ⟨.bl (g i j),H,I,rfl,q⟩
def CPow (i j:Int):Prop:=0<=j/\j<=1000000/\i.natAbs < 2 ^ 64
def CMul (i j:Int):Prop:=(-(2 ^ 64) < i/\i < 2 ^ 64)\/(-(2 ^ 64) < j/\j < 2 ^ 64)
theorem CMul.ok {i j:Int} (h:CMul i j):IntMulOk i j:=by
 rcases h with ⟨h1,h2⟩ | ⟨h1,h2⟩
 ·exact .of_left (intBits_le_64 h1 h2)
 ·exact .of_right (intBits_le_64 h1 h2)
theorem wz:OpR X (binaryOp .Add) (rI0 λi j=>.int (i+j)):=opI0 λ_ _ _ _ _ _ _ q=>add_int q
theorem BY:OpR X (binaryOp .Sub) (rI0 λi j=>.int (i - j)):=opI0 λ_ _ _ _ _ _ _ q=>sub_int q
theorem Ck:OpR X (binaryOp .Mult) (rI CMul λi j=>.int (i*j)):=opI λ_ _ _ _ _ _ _ hc q=>mul_int q hc.ok
theorem wG:OpR X (binaryOp .Mod) (rI (λ_ j=>0 < j) λi j=>.int (i % j)):=opI λi j _ _ _ _ _ hc q=>by
 have h1:(0:Int) < j:=hc
 exact mod_int' (by omega) (by rw [Int.fmod_eq_emod_of_nonneg i (by omega)];exact q)
theorem Ad:OpR X (binaryOp .Pow) (rI CPow λi j=>.int (i ^ j.toNat)):=opI λ_ _ _ _ _ _ _ hc q=>pow_int_small hc.1 hc.2.1 hc.2.2 q
theorem unI {f:Value->Sem Value}{g:Int->Int}
  (rule:∀ (i:Int) (t:Tok) (s:Shared) (Q:Value->Shared->Prop) (E:Value->Shared->Prop),Q (.int (g i) s.toks) { s with toks:=s.toks+1 }->wpAny (model X.prog X.w) X.A (f (.int i t)) Q E s) :
  UnR X f (rU λi=>.int (g i)):=by
 intro aa s U H x v Q I rx h
 obtain ⟨i,rfl,q⟩:=h
 obtain ⟨t,rfl⟩:=rx
 exact rule i t s _ _ ⟨.int (g i),H,I.tok _,⟨_,rfl⟩,q⟩
theorem Br:UnR X (unaryOp .USub) (rU λi=>.int (-i)):=unI λ_ _ _ _ _ q=>neg_int q
end
section
variable {X:Cx}{a b c:Expr}{ta tb tc:TE}{pos:Pos}
theorem sM {aa:List (Addr×Obj)}{U:St}{H:Hp}{s:Shared}{Q:VK}{k k':Bool} (I:Inv X aa U H s) (q:Q (.bl k) H) (e:k=k'):EP X aa U Q (.bool k') s:=by
 subst e
 exact ⟨.bl k,H,I,rfl,q⟩
theorem tK:OpR X (compareOp .Lt) (rI0 λi j=>.bl (decide (i < j))):=opB0 λ_ _ _ _ _ _ _ q=>lt_int q
theorem yL:OpR X (compareOp .LtE) (rI0 λi j=>.bl (decide (i<=j))):=opB0 λ_ _ _ _ _ _ _ q=>le_int q
theorem BH:OpR X (compareOp .Gt) (rI0 λi j=>.bl (decide (j < i))):=opB0 λ_ _ _ _ _ _ _ q=>gt_int q
theorem Al:OpR X (compareOp .GtE) (rI0 λi j=>.bl (decide (j<=i))):=opB0 λ_ _ _ _ _ _ _ q=>ge_int q
theorem yz:OpR X (compareOp .Is) (λx y H Q=>y=.non/\Q (.bl (decide (x=.non))) H):=by
 intro aa s U H x y v u Q I rx ry h
 obtain ⟨rfl,q⟩:=h
 cases ry
 refine is_none_gen (sM I q ?_)
 cases x<;>first
  | (cases rx;rfl)
  | (obtain ⟨t,rfl⟩:=rx;rfl)
theorem Bq:OpR X (compareOp .IsNot) (λx y H Q=>y=.non/\Q (.bl (!decide (x=.non))) H):=by
 intro aa s U H x y v u Q I rx ry h
 obtain ⟨rfl,q⟩:=h
 cases ry
 refine isnot_none_gen (sM I q ?_)
 cases x<;>first
  | (cases rx;rfl)
  | (obtain ⟨t,rfl⟩:=rx;rfl)
theorem OpR.or {f:Value->Value->Sem Value}{r r':R2} (h:OpR X f r) (h':OpR X f r'):OpR X f (λx y H Q=>r x y H Q\/r' x y H Q):=by
 intro aa s U H x y v u Q I rx ry q
 rcases q with q | q
 ·exact h aa s U H x y v u Q I rx ry q
 ·exact h' aa s U H x y v u Q I rx ry q
theorem nomark (b:Expr){op:CmpOp} (h:op≠.In:=by decide) (h2:op≠.NotIn:=by decide):behindInMarks op b=false:=by
 have e1:(op == CmpOp.In)=false:=by cases op<;>first | rfl | exact absurd rfl h
 have e2:(op == CmpOp.NotIn)=false:=by cases op<;>first | rfl | exact absurd rfl h2
 cases b<;>simp [behindInMarks,e1,e2]
theorem xT {op:CmpOp}{r:R2} (ho:OpR X (compareOp op) r) (ha:PE X a ta) (hb:PE X b tb) (hm:behindInMarks op b=false):PE X (.Compare a [op] [b] pos) (tOp r ta tb):=by
 intro aa s U H Q I h
 exact wpAny_Compare1 (binT ha hb I h λv u s2 x y H2 I2 rx ry q=>ho aa s2 U H2 x y v u Q I2 rx ry q) hm
noncomputable def tTest (t:TE):TT:=λU H Q=>t U H λx H'=>∃ k,x=.bl k/\Q k H'
theorem Bs {op:CmpOp}{r:R2} (ho:OpR X (compareOp op) r) (ha:PE X a ta) (hb:PE X b tb) (hm:behindInMarks op b=false):PT X (.Compare a [op] [b] pos) (tTest (tOp r ta tb)):=by
 intro aa s U H Q I h
 refine wpAny_isTrue_Compare1 (thn (ha aa s U H _ I h) λv s1 ⟨x,H1,I1,r1,q1⟩=>thn (hb aa s1 U H1 _ I1 q1) λu s2 ⟨y,H2,I2,r2,q2⟩ =>
  thn (ho aa s2 U H2 x y v u _ I2 r1 r2 q2) λc s3 ⟨z,H3,I3,r3,k,e,q3⟩=>?_) hm
 subst e
 cases r3
 exact wpAny_truthy_bool ⟨H3,I3,q3⟩
noncomputable def tChain (r r':R2) (ta tb tc:TE):TE:=λU H Q=>ta U H λx H1=>tb U H1 λy H2=>r x y H2 λz H3=>∃ k,z=.bl k ∧
 (if k=true then tc U H3 λw' H4=>r' y w' H4 Q else Q (.bl false) H3)
theorem yX {op cG:CmpOp}{r r':R2} (ho:OpR X (compareOp op) r) (bL:OpR X (compareOp cG) r') (ha:PE X a ta) (hb:PE X b tb) (hc:PE X c tc)
  (hm:lastMarks [op,cG] [b,c]=false:=by with_unfolding_all rfl):PT X (.Compare a [op,cG] [b,c] pos) (tTest (tChain r r' ta tb tc)):=by
 intro aa s U H Q I h
 refine isTrue_chain (thn (ha aa s U H _ I h) λv s1 ⟨x,H1,I1,r1,q1⟩=>test_link (thn (hb aa s1 U H1 _ I1 q1) λu s2 ⟨y,H2,I2,r2,q2⟩ =>
  thn (ho aa s2 U H2 x y v u _ I2 r1 r2 q2) λd s3 ⟨z,H3,I3,r3,k,e,q3⟩=>?_)) hm
 subst e
 cases r3
 refine wpAny_truthy_bool ?_
 cases k with
 | false =>
  obtain ⟨k',e',q'⟩:=q3
  cases e'
  exact ite_ff ⟨H3,I3,q'⟩
 | true =>
  refine ite_tt (test_last (thn (hc aa s3 U H3 _ I3 q3) λw' s4 ⟨z',H4,I4,r4,q4⟩=>thn (bL aa s4 U H4 y z' u w' _ I4 r2 r4 q4) λd' s5 ⟨z2,H5,I5,r5,k2,e2,q5⟩=>?_))
  subst e2
  cases r5
  exact wpAny_truthy_bool ⟨H5,I5,q5⟩
theorem line63:(sizeLine:Nat) < 2 ^ 63:=by rw [sizeLine_eq];decide
theorem zx:OpR X (binaryOp .Add) (λx y H Q=>∃ i j,x=.str i/\y=.str j/\i.length+j.length<=sizeLine/\Q (.str (i++j)) H):=by
 intro aa s U H x y v u Q I rx ry h
 obtain ⟨i,j,rfl,rfl,hz,q⟩:=h
 obtain ⟨t,rfl⟩:=rx
 obtain ⟨t',rfl⟩:=ry
 exact add_str (λt' tk=>⟨.str (i++j),H,I.tok _,⟨_,rfl⟩,q⟩) hz
theorem vals1 {x:V}{us:List Value} (r:Vals [x] us):∃ u,us=[u]/\RelV x u:=by
 cases r with
 | cons r1 r2=>cases r2;exact ⟨_,rfl,r1⟩
end
structure ObjM (h:Heap) (x dx C:Addr) (mA:Str->Option Value):Prop where
 obj:h.get? x=some (instObj C dx)
 ns:h.Ns1 dx mA
 ne:dx≠x
theorem RelO.some_of {v:V}{o:Option Value} (r:RelO (some v) o):∃ u,o=some u/\RelV v u:=by
 cases o with
 | none=>exact (show False from r).elim
 | some u=>exact ⟨u,rfl,r⟩
structure Cls (K:PySem.W.Frag) (C:Addr):Prop where
 pg:PySem.W.plainGet K C Str.empty=true
 hd:PySem.W.hasDictIn K C=true
 po:PySem.W.plainOver K C=true
 sa:PySem.W.findIn K (.ref C) "__setattr__"=some (some (.builtin "object.__setattr__"))
structure Con (K:PySem.W.Frag) (C:Addr) (f:Str) (v:V) (u:Value):Prop where
 at_:PySem.W.findIn K (.ref C) f=some (some u)
 rel:RelV v u
 get:PySem.W.specialIn K u "__get__"=some none
 cp:PySem.W.copiedNames.contains f=false
structure Meth (K:PySem.W.Frag) (C:Addr) (m:Str) (f:Addr):Prop where
 at_:PySem.W.findIn K (.ref C) m=some (some (.ref f))
 fn:isFn K (.ref f)=true
 kp:PySem.W.keepIn K (.ref f)=true
section
variable {X:Cx}{aa:List (Addr×Obj)}{U:St}{H:Hp}{s:Shared}{a C dx:Addr}{fs:List (Str×V)}{f:Str}{v:V}{A:Around}{E:Value->Shared->Prop}
theorem w6 {prog:Program}{w:World}{env:Env}{e:Expr}{f:Str}{pos:Pos}{s:Shared}{Q:Value->Shared->Prop} (hb:attributeBase e f env (eval e env)=eval e env)
  (h:wpAny (model prog w) A (eval e env) (λo al=>wpAny (model prog w) A (getAttr o f true) Q E al) E s):wpAny (model prog w) A (eval (.Attribute e f pos) env) Q E s :=
 Attribute_any_ h (by rw [arm_eval_Attribute,hb])
end
section
variable {X:Cx}{aa:List (Addr×Obj)}{U:St}{H:Hp}{s:Shared}{A:Around}{E:Value->Shared->Prop}{Q:Value->Shared->Prop}{c:Value}{b:Bool}
inductive TyOf (K:PySem.W.Frag) (H:Hp):V->Value->Prop where
 | non:TyOf K H .non (.type "NoneType")
 | bl (x:Bool):TyOf K H (.bl x) (.type "bool")
 | int (i:Int):TyOf K H (.int i) (.type "int")
 | str (x:Str):TyOf K H (.str x) (.type "str")
 | flt (x:UInt64):TyOf K H (.flt x) (.type "float")
 | lst {a:Addr}{xs:List V} (e:H a=some (.lst xs)):TyOf K H (.ref a) (.type "list")
 | frz {a:Addr}{o:Obj}{xs:List V} (e:H a=some (.frz o (.lst xs))):TyOf K H (.ref a) (.type "list")
 | tup {a:Addr}{xs:List V} (e:H a=some (.tup xs)):TyOf K H (.ref a) (.type "tuple")
 | dK {a:Addr}{aC:List (Key×V)} (e:H a=some (.dK aC)):TyOf K H (.ref a) (.type "dict")
 | dT {a:Addr}{aC:List (List Key×V)} (e:H a=some (.dT aC)):TyOf K H (.ref a) (.type "dict")
 | ins {a C dx:Addr}{fs:List (Str×V)} (e:H a=some (.ins C dx fs)) (cl:Cls K C) (ha:PySem.W.findIn K (.ref C) "__class__"=some (some (.builtin "object.__class__")))
   (hn:PySem.W.specialIn K (.builtin "object.__class__") "__get__"=some (some (.builtin "getset_descriptor.__get__"))) (lx:PySem.W.takesIn K (.builtin "object.__class__")=some true)
   (hm:PySem.W.mroIn K C (.type "object")=some true):TyOf K H (.ref a) (.ref C)
end
structure Room (k:Nat) (A:Around):Prop where
 hd:A.handled=none
 dp:A.depth+3*k+5 < recursionLimit
 un:A.units+16*k+200 < cLine
 gd:A.guards=some []
theorem Room.mono {j k:Nat}{A:Around} (r:Room k A) (h:j<=k):Room j A:=⟨r.hd,by have:=r.dp;omega,by have:=r.un;omega,r.gd⟩
theorem Room.deeper {k:Nat}{A:Around} (r:Room (k+1) A) (env:Env):Room k (A.deeper env) :=
 ⟨r.hd,by have:=r.dp;show A.depth+1+3*k+5 < _;omega,by have:=r.un;show A.units+3+16*k+200 < _;omega,r.gd⟩
theorem Ca {A:Around}{C:Addr}{us:List Value}{kw:List (Str×Value)}:(A.under (.builtin "type.__call__" ⟨.ref C::us,kw⟩)).depth=A.depth+1:=by
 first | rfl | simp [Around.under,Code.weight,Code.isCreation,Code.isGuard,Code.isCaller,Code.frames,isFrame,guardIds]
theorem Be {A:Around}{C:Addr}{us:List Value}{kw:List (Str×Value)}:(A.under (.builtin "type.__call__" ⟨.ref C::us,kw⟩)).units=A.units+1:=by
 first | rfl | simp [Around.under,Code.cUnits,Code.frames,isFrame]
theorem Room.make {k:Nat}{A:Around} (r:Room (k+1) A) (C:Addr) (us:List Value) (kw:List (Str×Value)):Room k (A.under (.builtin "type.__call__" ⟨.ref C::us,kw⟩)) :=
 ⟨r.hd,by have:=r.dp;rw [Ca];omega,by have:=r.un;rw [Be];omega,(by first | exact r.gd | (simp only [Around.under];exact r.gd) | simpa [Around.under,Code.isGuard,guardIds] using r.gd)⟩
theorem Room.depth {k:Nat}{A:Around} (r:Room k A):A.depth < recursionLimit:=by have:=r.dp;omega
noncomputable def tNil:TA:=λ_ H Q=>Q [] H
noncomputable def tCons (ta:TE) (tr:TA):TA:=λU H Q=>ta U H λx H1=>tr U H1 λxs H2=>Q (x::xs) H2
section
variable {X:Cx}{e:Expr}{es:List Expr}{te:TE}{t:TA}{pos:Pos}
theorem nW:PA X [] tNil:=λ_ _ _ _ H Q I h=>Calls.spliced_nil ⟨[],H,I,.nil,h⟩
theorem mX (ha:PE X e te) (hr:PA X es t) (hs:starEach (e::es) X.env=(false,eval e X.env)::starEach es X.env:=by rfl):PA X (e::es) (tCons te t):=by
 intro pos aa s U H Q I h
 rw [hs]
 show wpAny _ _ (spliced ((false,eval e X.env)::backTo pos (starEach es X.env))) _ _ s
 refine Calls.spliced_cons (thn (ha aa s U H _ I h) λu s1 ⟨x,H1,I1,r1,q1⟩=>?_)
 exact thn (hr pos aa s1 U H1 _ I1 q1) λus s2 ⟨xs,H2,I2,r2,q2⟩=>⟨x::xs,H2,I2,.cons r1 r2,q2⟩
noncomputable def tTup (t:TA):TE:=λU H Q=>t U H λxs H1=>xs.length<=sizeLine/\∀ p,H1 p=none->Q (.ref p) (upd H1 p (.tup xs))
noncomputable def tLst (t:TA):TE:=λU H Q=>t U H λxs H1=>xs.length<=sizeLine/\∀ p,H1 p=none->Q (.ref p) (upd H1 p (.lst xs))
theorem wS {x1} (h:PA X es t):PE X (.Tuple es x1 pos) (tTup t):=by
 intro aa s U H Q I hq
 refine wpAny_Tuple_spliced (thn (h pos aa s U H _ I hq) λus s1 ⟨xs,H1,I1,r,z,q⟩=>⟨by rw [← r.length];exact z,?_⟩)
 have hf:H1 s1.heap.objs.size=none:=I1.hok.fresh (le_refl _)
 refine ⟨.ref s1.heap.objs.size,upd H1 s1.heap.objs.size (.tup xs),I1.laid (t':=s1.toks) (λb u e=>get?_push_of_some _ e) (le_refl _) ?_,rfl,q _ hf⟩
 exact ⟨z,us,r,⟨_,get?_push_size _ rfl,rfl,_,rfl⟩⟩
theorem Az (h:PA X es t):PE X (.List es pos) (tLst t):=by
 intro aa s U H Q I hq
 refine wpAny_List_spliced (thn (h pos aa s U H _ I hq) λus s1 ⟨xs,H1,I1,r,z,q⟩=>⟨by rw [← r.length];exact z,?_⟩)
 have hf:H1 s1.heap.objs.size=none:=I1.hok.fresh (le_refl _)
 refine ⟨.ref s1.heap.objs.size,upd H1 s1.heap.objs.size (.lst xs),I1.laid (t':=s1.toks) (λb u e=>get?_push_of_some _ e) (le_refl _) ?_,rfl,q _ hf⟩
 exact ⟨z,us,0,r,get?_push_size _ rfl⟩
end
abbrev Sp:=List V->Hp->VK->XK->Prop
abbrev CXT:=List Env->Hp->Shared->XK->Value->Shared->Prop
structure Env0 (P:Program) (w:World) (K:PySem.W.Frag) (mg:Str->Option Value) (base:Heap) (A:Around) (outer:List Env) (s:Shared) (H:Hp):Prop where
 frames:A.frames=some outer
 mod:Mod K mg base
 bs:∀ b o,base.get? b=some o->s.heap.get? b=some o/\H b=none
 bsz:base.objs.size<=s.heap.objs.size
 funs:s.heap.FunFrames base outer
 frf:∀ b∈frs outer,H b=none
 hok:HOk P w H s.heap
 bare:AllBare s.gens
def CE (outer:List Env) (P:Program) (w:World) (H:Hp) (s:Shared) (Q:VK) (u:Value) (s':Shared):Prop :=
 ∃ v H',s'.os=s.os/\AllBare s'.gens/\Un (frs outer) [] H H' s.heap s'.heap/\HOk P w H' s'.heap/\RelV v u/\Q v H'
def CR (CX:CXT) (outer:List Env) (P:Program) (w:World) (H:Hp) (s:Shared) (Q:VK) (E:XK) (r:Result) (s':Shared):Prop :=
 match r with
 | .ok (.ret u)=>CE outer P w H s Q u s'
 | .ok _=>False
 | .error e=>CX outer H s E e s'
structure FnOk (P:Program) (w:World) (K:PySem.W.Frag) (mg:Str->Option Value) (base:Heap) (CX:CXT) (k:Nat) (f:Addr) (fd:FuncData) (ps:List Str) (sp:Sp):Prop where
 len:∀ vs H Q E,sp vs H Q E->vs.length=ps.length
 run:∀ (A:Around) (outer:List Env) (s:Shared) (H:Hp) (args:Args) (us:List Value) (vs:List V) (Q:VK) (E:XK),Room k A->Env0 P w K mg base A outer s H->BindsTo s fd args (ps.zip us)->Vals vs us->sp vs H Q E →
  codeAny (model P w) A (.call (.ref f) args) (CR CX outer P w H s Q E) s
theorem Env0.make {P:Program}{w:World}{K:PySem.W.Frag}{mg:Str->Option Value}{base:Heap}{A:Around}{outer:List Env}{s:Shared}{H:Hp} (e:Env0 P w K mg base A outer s H) (C:Addr) (us:List Value) (kw:List (Str×Value)) :
  Env0 P w K mg base (A.under (.builtin "type.__call__" ⟨.ref C::us,kw⟩)) outer s H:=⟨by first | exact e.frames | (simpa [Around.under,Code.envs,isFrame,pushEnvs] using e.frames),e.mod,e.bs,e.bsz,e.funs,e.frf,e.hok,e.bare⟩
section
variable {X:Cx}{aa:List (Addr×Obj)}{U:St}{H:Hp}{s s':Shared}
theorem Inv.env0 (I:Inv X aa U H s):Env0 X.prog X.w X.K X.mg X.base X.A X.stack s H :=
 ⟨I.ok.frames,I.ok.mod,I.bs,le_trans I.ok.bsz I.sz,I.stack,I.stkFree,I.hok,I.bare⟩
theorem Inv.after {Q:VK}{u:Value} (I:Inv X aa U H s) (h:CE X.stack X.prog X.w H s Q u s'):EP X aa U Q u s':=by
 obtain ⟨v,H',os,bare,un,hok,r,q⟩:=h
 obtain ⟨hh,g,d,t,ir⟩:=s'
 obtain rfl:ir=s.os:=os
 exact ⟨v,H',I.call (h':=hh) (g':=g) (d':=d) (t':=t) (ch:=[]) un hok bare (λb z=>absurd z (by simp)),r,q⟩
end
noncomputable def tCall (sp:Sp) (cu:List V) (E:XK) (t:TA):TE:=λU H Q=>t U H λvs H1=>sp (vs++cu) H1 Q E
def Binds (K:PySem.W.Frag) (fd:FuncData) (ps:List Str) (ds:List Value):Prop :=
 ∀ (s:Shared) (us:List Value),K.In s.heap->(us++ds).length=ps.length->BindsTo s fd ⟨us,[]⟩ (ps.zip (us++ds))
theorem Binds.all {K:PySem.W.Frag}{fd:FuncData}{ps:List Str} (h:∀ us:List Value,us.length=ps.length->bindArgs fd ⟨us,[]⟩=pure (ps.zip us)):Binds K fd ps []:=λs us _ hl=>by
 rw [append_nil] at hl ⊢
 exact .of_eq (h us hl)
def Passes (CX:CXT) (X:Cx) (E:XK):Prop:=∀ (aa:List (Addr×Obj)) (U:St) (H:Hp) (s:Shared) (e:Value) (s':Shared),Inv X aa U H s->CX X.stack H s E e s'->X.xe e s'
section
variable {X:Cx}{CX:CXT}{k:Nat}{f C:Addr}{fd:FuncData}{ps:List Str}{sp:Sp}{cu:List V}{ds:List Value}{E:XK}{x m:Str}{p pos aA:Pos}{e o:Expr}{es:List Expr}{ta:TE}{t:TA}
theorem zV {aa:List (Addr×Obj)}{U:St}{H:Hp}{s:Shared}{Q:VK}{us:List Value}{vs:List V} (F:FnOk X.prog X.w X.K X.mg X.base CX k f fd ps sp) (hr:Room k X.A) (hb:Binds X.K fd ps ds) (hd:Vals cu ds) (hx:Passes CX X E)
  (I:Inv X aa U H s) (r:Vals vs us) (h:sp (vs++cu) H Q E):wpAny (model X.prog X.w) X.A (call (.ref f) us) (EP X aa U Q) X.xe s:=by
 have r2:Vals (vs++cu) (us++ds):=r.append hd
 have hl:(us++ds).length=ps.length:=by rw [← r2.length];exact F.len _ _ _ _ h
 refine wpAny_call (codeAny_mono (F.run X.A X.stack s H ⟨us,[]⟩ (us++ds) (vs++cu) Q E hr I.env0 (hb s us I.kIn hl) r2 h) λr s' hq=>?_)
 cases r with
 | error e=>exact hx aa U H s e s' I hq
 | ok fl =>
  cases fl with
  | ret u=>exact I.after hq
  | next=>exact elim hq
  | brk=>exact elim hq
  | cont=>exact elim hq
theorem r8 (F:FnOk X.prog X.w X.K X.mg X.base CX k f fd ps sp) (hr:Room k X.A) (hg:Gl X x) (hm:X.mg x=some (.ref f)) (hk:PySem.W.keepIn X.K (.ref f)=true) (hb:Binds X.K fd ps ds) (hd:Vals cu ds) (hx:Passes CX X E)
  (ha:PA X (e::es) t) (aM:(x == ("__debug__":Str))=false:=by decide) (he:starEach (e::es) X.env=(false,eval e X.env)::starEach es X.env:=by rfl) (az:(backTo pos (starEach es X.env)).any (·.1)=false:=by rfl) :
  PE X (.Call (.Name x p) (e::es) [] pos) (tCall sp cu E t):=by
 intro aa s U H Q I h
 refine wpAny_Call_Name_kw (nR I hg hm ?_ aM)
 refine PySem.W.callWith_K (h₀:=X.base) I.ok.mod.kin hk (thn (ha pos aa s U H _ I h) λus s1 ⟨vs,H1,I1,r,q⟩=>⟨I1.kIn,?_⟩) he az
 exact zV F hr hb hd hx I1 r q
structure Mk (K:PySem.W.Frag) (C f:Addr):Prop where
 makes:PySem.W.makesIn K C=true
 init:PySem.W.findIn K (.ref C) "__init__"=some (some (.ref f))
 fn:isFn K (.ref f)=true
 kp:PySem.W.keepIn K (.ref C)=true
end
section
variable {X:Cx}{CX:CXT}{k:Nat}{f C:Addr}{fd:FuncData}{ps ks:List Str}{sp:Sp}{E:XK}{x m:Str}{p pos aA lp:Pos}{e o:Expr}{es:List Expr}{ly:List Keyword}{te ta:TE}{t tk:TA}{nm:Option Str}
structure KBinds (K:PySem.W.Frag) (fd:FuncData) (ps ks:List Str) (g:List Value->List Value->List Value) (gV:List V->List V->List V):Prop where
 to:∀ (s:Shared) (us ws:List Value),K.In s.heap->(g us ws).length=ps.length->BindsTo s fd ⟨us,ks.zip ws⟩ (ps.zip (g us ws))
 rel:∀ {vs:List V}{us:List Value}{zs:List V}{ws:List Value},Vals vs us->Vals zs ws->Vals (gV vs zs) (g us ws)
variable {g:List Value->List Value->List Value}{gV:List V->List V->List V}
end
structure FnScope (N P:List Str) (sc:Scope):Prop where
 kind:sc.kind=.function
 co:sc.isCoroutine=false
 gen:sc.isGenerator=false
 nd:N.Nodup
 pre:N.take P.length=P
 par:∀ x∈P,sc.names.lookup x=some .local\/sc.names.lookup x=some .cell
 nofree:∀ y∈sc.names,y.2≠.free
theorem tx {kindOf:Str->Option NameKind}{x:Str}:∀ {binds:List (Str×Value)}{m:Str->Option Value},(∀ v,(x,v)∉binds)->bindL kindOf binds m x=m x
 | [],_,_=>rfl
 | (n,v)::r,m,h=>by
  unfold bindL
  rw [tx λw hw=>h w (mem_cons_of_mem _ hw)]
  split
  ·have:x≠n:=by rintro rfl;exact h v mem_cons_self
   simp [this]
  ·rfl
theorem vA {kindOf:Str->Option NameKind}{x:Str}:∀ {binds:List (Str×Value)}{m:Str->Option Value},(∀ v,(x,v)∉binds)->bindC kindOf binds m x=m x
 | [],_,_=>rfl
 | (n,v)::r,m,h=>by
  unfold bindC
  rw [vA λw hw=>h w (mem_cons_of_mem _ hw)]
  split
  ·rfl
  ·have:x≠n:=by rintro rfl;exact h v mem_cons_self
   simp [this]
theorem uP {kindOf:Str->Option NameKind}{x:Str}{v:Value}:∀ {P:List Str}{vs:List Value}{i:Nat}{m:Str->Option Value},P.Nodup->P[i]?=some x->vs[i]?=some v->kindOf x=some .local →
  bindL kindOf (P.zip vs) m x=some v
 | [],_,_,_,_,h,_,_=>by simp at h
 | _::_,[],_,_,_,_,h,_=>by simp at h
 | p::P,w::vs,0,m,nd,h1,h2,hk=>by
  simp at h1 h2;subst h1;subst h2
  show bindL kindOf ((p,w)::P.zip vs) m p=_
  unfold bindL
  rw [tx λv hv=>(nodup_cons.mp nd).1 (of_mem_zip hv).1,if_pos hk]
  simp
 | p::P,w::vs,i+1,m,nd,h1,h2,hk=>by
  show bindL kindOf ((p,w)::P.zip vs) m x=_
  unfold bindL
  exact uP (i:=i) (nodup_cons.mp nd).2 (by simpa using h1) (by simpa using h2) hk
theorem vW {kindOf:Str->Option NameKind}{x:Str}{v:Value}:∀ {P:List Str}{vs:List Value}{i:Nat}{m:Str->Option Value},P.Nodup->P[i]?=some x->vs[i]?=some v->kindOf x≠some .local →
  bindC kindOf (P.zip vs) m x=some v
 | [],_,_,_,_,h,_,_=>by simp at h
 | _::_,[],_,_,_,_,h,_=>by simp at h
 | p::P,w::vs,0,m,nd,h1,h2,hk=>by
  simp at h1 h2;subst h1;subst h2
  show bindC kindOf ((p,w)::P.zip vs) m p=_
  unfold bindC
  rw [vA λv hv=>(nodup_cons.mp nd).1 (of_mem_zip hv).1,if_neg hk]
  simp
 | p::P,w::vs,i+1,m,nd,h1,h2,hk=>by
  show bindC kindOf ((p,w)::P.zip vs) m x=_
  unfold bindC
  exact vW (i:=i) (nodup_cons.mp nd).2 (by simpa using h1) (by simpa using h2) hk
noncomputable def start (N:List Str) (vs:List V):St:=vs.map some++replicate (N.length - vs.length) none
noncomputable def cxOf (CX:CXT) (P:Program) (w:World) (K:PySem.W.Frag) (mg:Str->Option Value) (base:Heap) (N:List Str) (qual:Str) (scope:Scope) (f:Addr) (cd:Value) (A:Around) (outer:List Env) (s:Shared) (H:Hp) (E:XK):Cx where
 prog:=P
 w:=w
 K:=K
 mg:=mg
 base:=base
 A:=A.deeper (envOfC qual scope s.heap.objs.size f cd)
 N:=N
 s₀:=s
 H₀:=H
 env:=envOfC qual scope s.heap.objs.size f cd
 outer:=outer
 stack:=envOfC qual scope s.heap.objs.size f cd::outer
 ex:=[]
 calm:=true
 fn:=λ_=>true
 pn:=[]
 xe:=λe s'=>wpAny (model P w) (A.deeper (envOfC qual scope s.heap.objs.size f cd)) (leaving (envOfC qual scope s.heap.objs.size f cd) e) (λ_ fR=>CX outer H s E e fR) (λe' fR=>CX outer H s E e' fR) s'
theorem uG {sc:Scope}{n:Nat}{x:Str} (h:sc.names.lookup x=some .cell):∃ c,(cellsFrom n sc.names []).lookup x=some c:=by
 have q:=PySem.W.cellsFrom_some sc.names n [] (.inl h)
 exact Option.isSome_iff_exists.mp q
theorem yG {CX:CXT}{P:Program}{w:World}{K:PySem.W.Frag}{mg:Str->Option Value}{base:Heap}{N ps:List Str}{qual:Str}{scope:Scope}{f:Addr}{cd:Value}{A:Around}{outer:List Env}{s s1:Shared}{H:Hp}{E:XK}{us:List Value}{vs:List V}
  (S:FnScope N ps scope) (hd:A.handled=none) (e0:Env0 P w K mg base A outer s H) (hl:vs.length=ps.length) (r:Vals vs us)
  (x:InCallC s s.heap.objs.size (bindL (envOfC qual scope s.heap.objs.size f cd).kindOf (ps.zip us) λ_=>none) (cellsFrom (s.heap.objs.size+1) scope.names []) (bindC (envOfC qual scope s.heap.objs.size f cd).kindOf (ps.zip us) λ_=>none) s1) :
  Inv (cxOf CX P w K mg base N qual scope f cd A outer s H E) [] (start N vs) H s1:=by
 have az:ps.length<=N.length:=by have:=congrArg List.length S.pre;rw [length_take] at this;omega
 obtain ⟨h1,tk,rfl,hk⟩:=x.done
 have dJ:∀ b:Addr,b∉(cxOf CX P w K mg base N qual scope f cd A outer s H E).ex:=λb z=>absurd (show b∈([]:List Addr) from z) (by simp)
 refine ⟨⟨e0.mod,S.kind,rfl,rfl,le_refl _,λy z c h1 h2=>?_,λy hy=>?_,λy c _ h=>?_,λ_=>hd,Around.frames_deeper e0.frames,.inr ⟨rfl,rfl⟩,λb z=>absurd z (dJ b),e0.bs,e0.bsz,λb _ _=>dJ b,λb z=>absurd z (dJ b),e0.funs,e0.frf⟩,
  rfl,e0.bare,Un.kept hk,⟨_,x.toInCall.ns,λi y v h1 h2 h3=>?_⟩,λy c h=>⟨_,x.cell y c h⟩,e0.hok.fresh (le_refl _),λy c h=>?_,λp hp=>absurd (show p∈([]:List (Addr×Obj)) from hp) (by simp),e0.hok.kept hk,?_⟩
 ·exact name_of_addr x.apart (PySem.mem_of_lookup h1) (PySem.mem_of_lookup h2)
 ·have hy:scope.names.lookup y=some .cell\/scope.names.lookup y=some .free:=hy
  rcases hy with hy | hy
  ·exact uG hy
  ·exact absurd rfl (S.nofree _ (PySem.mem_of_lookup hy))
 ·exact le_of_lt (x.above y c (PySem.mem_of_lookup h))
 ·have hi:i < vs.length:=by
   unfold start at h2
   by_cases hi:i < vs.length
   ·exact hi
   ·rw [List.getElem?_append_right (by simpa using hi)] at h2
    rw [List.getElem?_replicate] at h2
    split at h2<;>cases h2
  have ha:vs[i]?=some v:=by
   unfold start at h2
   rw [getElem?_append_left (by simpa using hi),getElem?_map] at h2
   cases e:vs[i]? with
   | none=>rw [e] at h2;cases h2
   | some a=>rw [e] at h2;cases h2;rfl
  obtain ⟨u,hu,rv⟩:=r.get ha
  have hp:ps[i]?=some y:=by
   rw [← S.pre,List.getElem?_take_of_lt (by omega)];exact h1
  have iu:ps.Nodup:=by rw [← S.pre];exact S.nd.sublist (List.take_sublist _ _)
  refine ⟨u,rv,?_⟩
  rcases S.par y (mem_of_getElem? hp) with k | k
  ·exact .inl ⟨k,uP iu hp hu k⟩
  ·obtain ⟨c,e⟩:=uG (n:=s.heap.objs.size+1) k
   refine .inr ⟨.inl k,c,e,?_⟩
   have q:=x.cell y c e
   rw [vW iu hp hu (by show scope.names.lookup y≠_;rw [k];decide)] at q
   exact q
 ·exact e0.hok.fresh (le_of_lt (x.above y c (PySem.mem_of_lookup h)))
 ·unfold start
  show _=N.length
  rw [length_append,length_map,length_replicate]
  omega
theorem uH {CX:CXT}{P:Program}{w:World}{K:PySem.W.Frag}{mg:Str->Option Value}{base:Heap}{k:Nat}{f:Addr}{name qual:Str}{params:Arguments}{body:List Stmt}{scope:Scope}{dV kV aZ pm am ct oc:Value}{an od:Option Addr}
  {bP:Array (Option Value)}{N ps:List Str}{sp:Sp} (lk:K.lookup f=some ⟨oc,od,.func (fnOf name qual params body scope dV kV aZ pm an am ct),bP⟩) (bh:codeIn K am qual=true) (S:FnScope N ps scope)
  (len:∀ vs H Q E,sp vs H Q E->vs.length=ps.length)
  (cH:∀ (A:Around) (outer:List Env) (s:Shared) (H:Hp) (vs:List V) (Q:VK) (E:XK),Room k (A.deeper (envOfC qual scope s.heap.objs.size f am))->sp vs H Q E →
   ∃ t,PSs (cxOf CX P w K mg base N qual scope f am A outer s H E) body t/\t { nx:=λ_ H'=>Q .non H',rt:=Q } (start N vs) H) :
  FnOk P w K mg base CX (k+1) f (fnOf name qual params body scope dV kV aZ pm an am ct) ps sp:=by
 refine ⟨len,λA outer s H args us vs Q E hr e0 hb r cw=>?_⟩
 have hl:=len _ _ _ _ cw
 have KX:K.In s.heap:=e0.mod.kin.keeps λb o e=>(e0.bs b o e).1
 have lim:s.heap.NoLimit:=e0.mod.nolimit.keeps λb o e=>(e0.bs b o e).1
 have fS:∀ y∈ps.zip us,scope.names.lookup y.1=some .local\/(scope.names.lookup y.1=some .cell/\((cellsFrom (s.heap.objs.size+1) scope.names []).lookup y.1).isSome=true):=λ⟨n,v⟩ hy=>by
  rcases S.par n (of_mem_zip hy).1 with q | q
  ·exact .inl q
  ·exact .inr ⟨q,PySem.W.cellsFrom_some _ _ _ (.inl q)⟩
 refine codeAny_call_function hr.depth (KX _ _ lk) rfl S.co S.gen rfl (PySem.W.codeRec_of KX bh) (hb _ _ _ _ ?_)
 refine wpAny_newFunctionEnv_cells S.kind fS λenv he s1 x=>?_
 subst he
 refine ⟨lim.keeps x.toInCall.keep,codeAny_func ?_⟩
 obtain ⟨t,ht,hq⟩:=cH A outer s H vs Q E (hr.deeper _) cw
 have I:Inv (cxOf CX P w K mg base N qual scope f am A outer s H E) [] (start N vs) H s1:=yG S hr.hd e0 hl r x
 refine wpAny_mono (ht [] s1 (start N vs) H _ I hq) (λfl s' hs=>?_) λe s' hs=>hs
 have fin:∀ {af:St}{H':Hp}{v:V}{u:Value},Inv (cxOf CX P w K mg base N qual scope f am A outer s H E) [] af H' s'->RelV v u->Q v H'->CE outer P w H s Q u s' :=
  λ{af H' v u} J rv q=>⟨v,H',J.os,J.bare,J.base,J.hok,rv,q⟩
 cases fl with
 | ret u =>
  obtain ⟨v,af,H',J,rv,q⟩:=hs
  exact fin J rv q
 | next =>
  obtain ⟨af,H',J,q⟩:=hs
  exact fin (v:=V.non) (u:=Value.none) J rfl q
 | brk =>
  obtain ⟨_,_,_,q⟩:=hs
  exact elim q
 | cont =>
  obtain ⟨_,_,_,q⟩:=hs
  exact elim q
section
variable {X:Cx}{x:Str}{p pos:Pos}{e:Expr}{es:List Expr}{t:TA}{id T:String}{r:List V->Hp->VK->Prop}
noncomputable def tCB (r:List V->Hp->VK->Prop) (t:TA):TE:=λU H Q=>t U H λvs H1=>r vs H1 Q
theorem p9 (hc:CallR X (.builtin id) r) (hg:Gl X x) (hm:X.mg x=none) (hv:bootBuiltins x=some (.builtin id)) (ha:PA X (e::es) t) (hn:x ≠ "__name__":=by decide) (aM:(x == ("__debug__":Str))=false:=by decide)
  (he:starEach (e::es) X.env=(false,eval e X.env)::starEach es X.env:=by rfl) (az:(backTo pos (starEach es X.env)).any (·.1)=false:=by rfl):PE X (.Call (.Name x p) (e::es) [] pos) (tCB r t):=by
 intro aa s U H Q I h
 refine wpAny_Call_Name_kw (nw I hg hm hv ?_ hn aM)
 exact PyProof.Rows.callWith_builtin1 (thn (ha pos aa s U H _ I h) λus s1 ⟨vs,H1,I1,r1,q1⟩=>hc aa s1 U H1 vs us Q I1 r1 q1) he az
theorem vf (hc:CallR X (.type T) r) (hg:Gl X x) (hm:X.mg x=none) (hv:bootBuiltins x=some (.type T)) (ha:PA X (e::es) t) (hn:x ≠ "__name__":=by decide) (aM:(x == ("__debug__":Str))=false:=by decide)
  (he:starEach (e::es) X.env=(false,eval e X.env)::starEach es X.env:=by rfl) (az:(backTo pos (starEach es X.env)).any (·.1)=false:=by rfl):PE X (.Call (.Name x p) (e::es) [] pos) (tCB r t):=by
 intro aa s U H Q I h
 refine wpAny_Call_Name_kw (nw I hg hm hv ?_ hn aM)
 exact PyProof.Rows.callWith_type1 (thn (ha pos aa s U H _ I h) λus s1 ⟨vs,H1,I1,r1,q1⟩=>hc aa s1 U H1 vs us Q I1 r1 q1) he az
end
end L2
namespace HT
open PySem PyProof.Rows
section
variable {prog:Program}{w:World}{A:Around}{E:Value->Shared->Prop}{s:Shared}
theorem xC {t b:Addr}{vs ws:List Value}{Q:Value->Shared->Prop} (ht:IsTup s.heap t vs.toArray) (hb:IsTup s.heap b ws.toArray) (hv:vs≠[])
  (h1:ws=[]->Q (.ref t) s) (h2:ws≠[]->Q (.ref s.heap.objs.size) { s with heap:=s.heap.push { cls:=.type "tuple", data:=.seq (vs++ws).toArray } })
  (eM:vs.length+ws.length<=sizeLine):wpAny (model prog w) A (binaryOp .Add (.ref t) (.ref b)) Q E s:=by
 obtain ⟨⟨cls,dd,data,sl⟩,ho,hc,n,hd⟩:=id ht
 obtain ⟨⟨iw,eN,data2,eO⟩,cx,bZ,n2,cb⟩:=id hb
 simp only at hc hd bZ cb
 subst hc hd bZ cb
 have e:vs.toArray++ws.toArray=(vs++ws).toArray:=by simp
 by_cases hw:ws=[]
 ·exact concat_meets ⟨_,ho,rfl⟩ ⟨_,cx,rfl⟩ noFill_tuple_add seq_tuple_add slot_tuple_add entry_tuple_add (args_tuple_add_2 _ _)
   (tuple_addW1 t b vs.toArray ws.toArray n n2 dd eN sl eO (by simpa using hv) (by simp [hw])) ⟨ho,cx,h1 hw⟩
 ·refine concat_meets ⟨_,ho,rfl⟩ ⟨_,cx,rfl⟩ noFill_tuple_add seq_tuple_add slot_tuple_add entry_tuple_add (args_tuple_add_2 _ _)
   (tuple_addW2 t b vs.toArray ws.toArray n n2 dd eN sl eO (by simpa using hv) (by simpa using hw) (by rw [size_toArray,size_toArray];exact eM)) ⟨ho,cx,?_⟩
  rw [e]
  exact h2 hw
noncomputable def sIx (n d:Nat):Option Int->Nat
 | none=>d
 | some v=>if v < 0 then (v+(n:Int)).toNat else min v.toNat n
theorem xq (n d:Nat) (hd:d<=n) (o:Option Int):sIx n d o<=n:=by
 cases o with
 | none=>exact hd
 | some v =>
  show (if v < 0 then (v+(n:Int)).toNat else min v.toNat n)<=n
  by_cases hv:v < 0
  ·rw [if_pos hv];omega
  ·rw [if_neg hv];exact Nat.min_le_right _ _
theorem sX (v:Int) (n d:Nat):(if v < 0 then max (v+(n:Int)) 0 else min v (n:Int))=((sIx n d (some v):Nat):Int):=by
 show (if v < 0 then max (v+(n:Int)) 0 else min v (n:Int))=(((if v < 0 then (v+(n:Int)).toNat else min v.toNat n):Nat):Int)
 by_cases hv:v < 0
 ·simp only [if_pos hv];omega
 ·simp only [if_neg hv];omega
theorem wN (lo hi:Option Int) (n:Nat):sliceAdjust lo hi 1 (n:Int)=(((sIx n 0 lo:Nat):Int),((sIx n n hi:Nat):Int)):=by
 have h1:¬ ((1:Int) < 0):=by omega
 unfold sliceAdjust
 simp only [h1,if_false]
 refine Prod.ext ?_ ?_
 ·cases lo with
  | none=>rfl
  | some v=>exact sX v n 0
 ·cases hi with
  | none=>rfl
  | some v=>exact sX v n n
theorem zg (i j:Nat):slicePlaces (i:Int) (j:Int) 1=j - i:=by
 unfold slicePlaces
 have h1:(1:Int) > 0:=by omega
 simp only [h1,if_true,Int.ediv_one]
 split<;>omega
theorem t3 {v:Value}{o:Option Int}{Q:Option Int->Shared->Prop} (p:IsPart v o) (h:Q o s):wpAny (model prog w) A (Builtin.Slice.slicePartIndex v) Q E s:=by
 cases p with
 | none=>exact slicePart_none h
 | int i t=>exact slicePart_int h
theorem AA {sl:Addr}{vl vu:Value}{lo hi:Option Int}{n:Nat}{Q:Int×Int×Nat->Shared->Prop} (hs:s.heap.IsSliceOf sl vl vu .none) (pl:IsPart vl lo) (pu:IsPart vu hi)
  (h:Q (((sIx n 0 lo:Nat):Int),1,sIx n n hi - sIx n 0 lo) s):wpAny (model prog w) A (sliceApplied (.ref sl) (pure (n:Int))) Q E s:=by
 obtain ⟨os,dL,ix,dj⟩:=id hs
 unfold sliceApplied Builtin.Slice.sliceFields
 refine wpAny_bind (wpAny_bind (wpAny_field dL dj (x:=vl) rfl (wpAny_bind (wpAny_field dL dj (x:=vu) rfl (wpAny_bind (wpAny_field dL dj (x:=.none) rfl (wpAny_pure ?_)))))))
 refine wpAny_bind (slicePart_none ?_)
 show wpAny _ _ (if ((1:Int) == 0)=true then _ else _) _ _ s
 rw [if_neg (by decide)]
 refine wpAny_bind (t3 pl (wpAny_bind (t3 pu (wpAny_bind (wpAny_pure ?_)))))
 show wpAny _ _ (match sliceAdjust lo hi 1 (n:Int) with | (lo,hi)=>pure (lo,(1:Int),slicePlaces lo hi 1)) _ _ s
 rw [wN lo hi n]
 show wpAny _ _ (pure (((sIx n 0 lo:Nat):Int),(1:Int),slicePlaces ((sIx n 0 lo:Nat):Int) ((sIx n n hi:Nat):Int) 1)) _ _ s
 rw [zg]
 exact wpAny_pure h
theorem BA (xs:Array Value) (i k:Nat):((range k).filterMap λ(m:Nat)=>xs[((i:Int)+(m:Int)*1).toNat]?).toArray=((xs.toList.drop i).take k).toArray:=by
 have e:(λ(m:Nat)=>xs[((i:Int)+(m:Int)*1).toNat]?)=λm=>xs[i+m]?:=by
  funext m
  have:((i:Int)+(m:Int)*1).toNat=i+m:=by omega
  rw [this]
 rw [e]
 have:=pick_run xs i k
 rw [List.filterMap_map] at this
 have e2:((λx=>xs[x]?)∘λx=>i+x)=λm=>xs[i+m]?:=rfl
 rw [e2] at this
 rw [this]
theorem Bt {t sl:Addr}{ag:Array Value}{vl vu:Value}{lo hi:Option Int}{Q:Value->Shared->Prop} (ht:IsTup s.heap t ag) (hs:s.heap.IsSliceOf sl vl vu .none) (pl:IsPart vl lo) (pu:IsPart vu hi)
  (hw:¬ (sIx ag.size 0 lo=0/\sIx ag.size ag.size hi=ag.size))
  (h:Q (.ref s.heap.objs.size) { s with heap:=s.heap.push { cls:=.type "tuple", data:=.seq ((ag.toList.drop (sIx ag.size 0 lo)).take (sIx ag.size ag.size hi - sIx ag.size 0 lo)).toArray } })
  (eM:ag.size<=sizeLine):wpAny (model prog w) A (getItem (.ref t) (.ref sl)) Q E s:=by
 have ce:sizeOk (.seq ((ag.toList.drop (sIx ag.size 0 lo)).take (sIx ag.size ag.size hi - sIx ag.size 0 lo)).toArray):=by
  show ((ag.toList.drop (sIx ag.size 0 lo)).take (sIx ag.size ag.size hi - sIx ag.size 0 lo)).toArray.size<=sizeLine
  rw [size_toArray,length_take,length_drop,length_toList]
  omega
 have hj:sIx ag.size ag.size hi<=ag.size:=xq _ _ (le_refl _) hi
 obtain ⟨os,dL,ix,dj⟩:=id hs
 have jD:s.TypeIs (.ref sl) "slice":=⟨os,dL,ix⟩
 unfold getItem
 try with_reducible refine wpAny_holding ?_
 first | refine wpAny_bind (wpAny_pure ?_) | skip
 refine wpAny_bind (wpAny_sequenceKey ht.typeIs (by decide) ?_)
 refine wpAny_bind (wpAny_callSpecial?_slot (name:=ofString "__getitem__") ht.typeIs PyProof.Rows.slot_tuple_getitem
  (wpAny_call_entry PyProof.Rows.slot_tuple_getitem ht.typeIs entry_tuple_getitem ?_ (args_tuple_getitem _ _)))
 show wpAny _ _ (Builtin.Tuple.tupleItemsOf (.ref t) >>= _) _ _ s
 refine wpAny_bind (tupleItemsOf_ ht ?_)
 refine wpAny_bind (wpAny_typeOf jD ?_)
 rw [if_pos (by decide)]
 refine wpAny_bind (AA hs pl pu ?_)
 have jE:¬ ((((sIx ag.size 0 lo:Nat):Int) == 0&&(1:Int) == 1&&(sIx ag.size ag.size hi - sIx ag.size 0 lo) == ag.size)=true):=by
  intro q
  rw [and_eq_true,and_eq_true] at q
  have q1:((sIx ag.size 0 lo:Nat):Int)=0:=eq_of_beq q.1.1
  have q2:sIx ag.size ag.size hi - sIx ag.size 0 lo=ag.size:=eq_of_beq q.2
  exact hw ⟨by omega,by omega⟩
 show wpAny _ _ (if (((sIx ag.size 0 lo:Nat):Int) == 0&&(1:Int) == 1&&(sIx ag.size ag.size hi - sIx ag.size 0 lo) == ag.size)=true then _ else _) _ _ s
 rw [if_neg jE,BA]
 first
  | exact wpAny_bind (m:=tupleExact _) (wpAny_newObj_type (wpAny_pure ⟨_,rfl,wpAny_pure h⟩) ce)
  | exact wpAny_bind (m:=tupleExact _) (wpAny_newObj_type (wpAny_bind (wpAny_pure (wpAny_pure ⟨_,rfl,wpAny_pure h⟩))) ce)
  | exact wpAny_bind (wpAny_bind (m:=tupleExact _) (wpAny_newObj_type (wpAny_pure (wpAny_pure ⟨_,rfl,wpAny_pure h⟩)) ce))
  | exact wpAny_bind (wpAny_bind (m:=tupleExact _) (wpAny_newObj_type (wpAny_pure ⟨_,rfl,wpAny_pure h⟩) ce))
end
end HT
namespace L2
open PySem PySem.Spec PyProof.Rows
abbrev TO:=St->Hp->(Option Int->Hp->Prop)->Prop
def PO (X:Cx) (e:Option Expr) (t:TO):Prop :=
 ∀ (aa:List (Addr×Obj)) (s:Shared) (U:St) (H:Hp) (Q:Option Int->Hp->Prop),Inv X aa U H s->t U H Q →
  wpAny (model X.prog X.w) X.A (evalPart e X.env) (λu s'=>∃ o H',Inv X aa U H' s'/\IsPart u o/\Q o H') X.xe s
noncomputable def tNoPart:TO:=λ_ H Q=>Q none H
noncomputable def tPart (t:TE):TO:=λU H Q=>t U H λx H1=>∃ i,x=.int i/\Q (some i) H1
section
variable {X:Cx}{e:Expr}{te:TE}{lo hi:Option Expr}{tl th:TO}{pos p2:Pos}
theorem AF:PO X none tNoPart:=by
 intro aa s U H Q I h
 rw [evalPart_none]
 exact wpAny_pure ⟨none,H,I,.none,h⟩
theorem wX (h:PE X e te):PO X (some e) (tPart te):=by
 intro aa s U H Q I hw
 rw [evalPart_some]
 refine thn (h aa s U H _ I hw) λu s1 ⟨x,H1,I1,r1,q1⟩=>?_
 obtain ⟨i,rfl,q⟩:=q1
 obtain ⟨t,rfl⟩:=r1
 exact ⟨some i,H1,I1,.int i t,q⟩
def SlR (X:Cx) (r:V->Option Int->Option Int->Hp->VK->Prop):Prop :=
 ∀ (aa:List (Addr×Obj)) (s:Shared) (U:St) (H:Hp) (x:V) (v vl vu:Value) (lo hi:Option Int) (sl:Addr) (Q:VK),Inv X aa U H s->RelV x v->s.heap.IsSliceOf sl vl vu .none->IsPart vl lo->IsPart vu hi->r x lo hi H Q →
  ∃ T id,typeLookup (.type T) "__getitem__"=pure (some (.builtin id))/\s.TypeIs v T/\wpAny (model X.prog X.w) X.A (getItem v (.ref sl)) (EP X aa U Q) X.xe s
theorem SlR.or {r r':V->Option Int->Option Int->Hp->VK->Prop} (h:SlR X r) (h':SlR X r'):SlR X (λx lo hi H Q=>r x lo hi H Q\/r' x lo hi H Q):=by
 intro aa s U H x v vl vu lo hi sl Q I rx hs pl pu q
 rcases q with q | q
 ·exact h aa s U H x v vl vu lo hi sl Q I rx hs pl pu q
 ·exact h' aa s U H x v vl vu lo hi sl Q I rx hs pl pu q
noncomputable def tSl (r:V->Option Int->Option Int->Hp->VK->Prop) (te:TE) (tl th:TO):TE:=λU H Q=>te U H λx H1=>tl U H1 λl H2=>th U H2 λu H3=>r x l u H3 Q
theorem ze {r:V->Option Int->Option Int->Hp->VK->Prop} (hr:SlR X r) (he:PE X e te) (hl:PO X lo tl) (hu:PO X hi th):PE X (.Subscript e (.Slice lo hi none p2) pos) (tSl r te tl th):=by
 intro aa s U H Q I h
 refine Subscript_ (thn (he aa s U H _ I h) λv s1 ⟨x,H1,I1,r1,q1⟩=>?_)
 refine wpAny_Slice (thn (hl aa s1 U H1 _ I1 q1) λvl s2 ⟨l,H2,I2,pl,q2⟩=>thn (hu aa s2 U H2 _ I2 q2) λvu s3 ⟨u,H3,I3,pu,q3⟩=>?_)
 rw [evalPart_none]
 refine wpAny_pure ?_
 have I4:Inv X aa U H3 { s3 with heap:=s3.heap.push { cls:=.type "slice", data:=.fields #[vl,vu,.none] } }:=I3.kept (t':=s3.toks) λb ob q=>get?_push_of_some _ q
 obtain ⟨T,id,hT,ht,hg⟩:=hr aa { s3 with heap:=s3.heap.push { cls:=.type "slice", data:=.fields #[vl,vu,.none] } } U H3 x v vl vu l u s3.heap.objs.size Q I4 r1 (Heap.IsSliceOf.new ..) pl pu q3
 show wpAny (model X.prog X.w) X.A (subscriptTail e (.Slice lo hi none p2) v (.ref s3.heap.objs.size)) (EP X aa U Q) X.xe { s3 with heap:=s3.heap.push { cls:=.type "slice", data:=.fields #[vl,vu,.none] } }
 exact tail_any (ops:=[.ref s3.heap.objs.size,v]) ht hT hg (by with_unfolding_all rfl)
noncomputable def cutV (xs:List V) (lo hi:Option Int):List V:=(xs.drop (HT.sIx xs.length 0 lo)).take (HT.sIx xs.length xs.length hi - HT.sIx xs.length 0 lo)
theorem wa (xs:List V) (lo hi:Option Int):(cutV xs lo hi).length<=xs.length:=by
 unfold cutV
 rw [length_take,length_drop]
 omega
def rSlT (K:PySem.W.Frag):V->Option Int->Option Int->Hp->VK->Prop:=λx lo hi H Q=>∃ a xs,x=.ref a/\SqT K H a xs ∧
 ¬ (HT.sIx xs.length 0 lo=0/\HT.sIx xs.length xs.length hi=xs.length)/\∀ p,H p=none->Q (.ref p) (upd H p (.tup (cutV xs lo hi)))
theorem BK:SlR X (rSlT X.K):=by
 intro aa s U H x v vl vu lo hi sl Q I rx hs pl pu h
 obtain ⟨a,xs,rfl,hx,hw,q⟩:=h
 cases rx
 obtain ⟨ae,r,ht,hz⟩:=I.tuple hx
 have aE:ae.toArray.size=xs.length:=by rw [size_toArray];exact r.length.symm
 refine ⟨"tuple", _,PyProof.Rows.slot_tuple_getitem.lookup,ht.typeIs,?_⟩
 refine HT.Bt ht hs pl pu (by rw [aE];exact hw) ?_ (by rw [aE];exact hz)
 rw [aE]
 refine ⟨.ref s.heap.objs.size,_,I.laid (t':=s.toks) (o:=.tup (cutV xs lo hi)) (λb ob q=>get?_push_of_some _ q) (le_refl _) ?_,rfl,q _ (I.hok.fresh (le_refl _))⟩
 exact ⟨le_trans (wa xs lo hi) hz,_,(r.drop (HT.sIx xs.length 0 lo)).take (HT.sIx xs.length xs.length hi - HT.sIx xs.length 0 lo),IsTup.new _ _⟩
noncomputable def rCatT (K:PySem.W.Frag):R2:=λx y H Q=>∃ a b xs ys,x=.ref a/\y=.ref b/\SqT K H a xs/\SqT K H b ys/\xs≠[]/\xs.length+ys.length<=sizeLine ∧
 (ys=[]->Q (.ref a) H)/\(ys≠[]->∀ p,H p=none->Q (.ref p) (upd H p (.tup (xs++ys))))
theorem Vals.nil_iff {xs:List V}{us:List Value} (r:Vals xs us):us=[]↔xs=[]:=by
 cases r with
 | nil=>simp
 | cons _ _=>simp
theorem xW:OpR X (binaryOp .Add) (rCatT X.K):=by
 intro aa s U H x y v u Q I rx ry h
 obtain ⟨a,b,xs,ys,rfl,rfl,ha,hb,hx,hz,q1,q2⟩:=h
 cases rx
 cases ry
 obtain ⟨ae,r1,p1,_⟩:=I.tuple ha
 obtain ⟨bn,r2,p2,_⟩:=I.tuple hb
 refine HT.xC p1 p2 (λz=>hx (r1.nil_iff.mp z)) (λz=>⟨.ref a,H,I,rfl,q1 (r2.nil_iff.mp z)⟩) (λz=>?_) (by rw [← r1.length,← r2.length];exact hz)
 refine ⟨.ref s.heap.objs.size,_,I.laid (t':=s.toks) (o:=.tup (xs++ys)) (λb ob q=>get?_push_of_some _ q) (le_refl _) ?_,rfl,q2 (λw=>z (r2.nil_iff.mpr w)) _ (I.hok.fresh (le_refl _))⟩
 exact ⟨by rw [length_append];exact hz,_,r1.append r2,IsTup.new _ _⟩
end
noncomputable def ixN (n:Nat) (i:Int):Option Nat:=if 0<=i then (if i < n then some i.toNat else none) else if -(n:Int)<=i then some (i+n).toNat else none
noncomputable def atI {α:Type} (xs:List α) (i:Int):Option α:=(ixN xs.length i).bind λj=>xs[j]?
theorem tL {n:Nat}{i:Int}{j:Nat} (h:ixN n i=some j):seqIndex? i n=some j/\j < n/\-(n:Int)<=i/\i < n:=by
 unfold ixN at h
 by_cases h0:0<=i
 ·rw [if_pos h0] at h
  by_cases h1:i < n
  ·rw [if_pos h1] at h
   have e:i.toNat=j:=Option.some.inj h
   exact ⟨by rw [seqIndex_of h0 h1,e],by omega,by omega,h1⟩
  ·rw [if_neg h1] at h;cases h
 ·rw [if_neg h0] at h
  by_cases h1:-(n:Int)<=i
  ·rw [if_pos h1] at h
   have e:(i+n).toNat=j:=Option.some.inj h
   exact ⟨by rw [seqIndex_neg (by omega) h1,e],by omega,h1,by omega⟩
  ·rw [if_neg h1] at h;cases h
theorem uv {α:Type}{xs:List α}{i:Int}{v:α} (h:atI xs i=some v):∃ j,seqIndex? i xs.length=some j/\xs[j]?=some v/\j < xs.length/\-(xs.length:Int)<=i/\i < xs.length:=by
 unfold atI at h
 cases e:ixN xs.length i with
 | none=>rw [e] at h;cases h
 | some j =>
  rw [e] at h
  obtain ⟨h1,h2,h3,h4⟩:=tL e
  exact ⟨j,h1,h,h2,h3,h4⟩
def PlainIx (b:Expr):Prop:=∀ o i,subscripted b false o i=operate [o,i] (getItem o i)
def IxR (X:Cx) (r:R2):Prop :=
 ∀ (value bo:Expr) (aa:List (Addr×Obj)) (s:Shared) (U:St) (H:Hp) (x y:V) (v u:Value) (Q:VK),Inv X aa U H s->RelV x v->RelV y u->r x y H Q →
  subscripted bo false v u=operate [v,u] (getItem v u)->wpAny (model X.prog X.w) X.A (subscriptTail value bo v u) (EP X aa U Q) X.xe s
def MtR (X:Cx) (id:String) (r:V->List V->Hp->VK->Prop):Prop :=
 ∀ (aa:List (Addr×Obj)) (s:Shared) (U:St) (H:Hp) (x:V) (xs:List V) (v:Value) (us:List Value) (Q:VK),Inv X aa U H s->RelV x v->Vals xs us->r x xs H Q →
  wpAny (model X.prog X.w) X.A (call (.builtin id) (v::us)) (EP X aa U Q) X.xe s
section
variable {X:Cx}{a b:Expr}{ta tb:TE}{pos:Pos}
theorem IxR.or {r r':R2} (h:IxR X r) (h':IxR X r'):IxR X (λx y H Q=>r x y H Q\/r' x y H Q):=by
 intro value bo aa s U H x y v u Q I rx ry q hs
 rcases q with q | q
 ·exact h value bo aa s U H x y v u Q I rx ry q hs
 ·exact h' value bo aa s U H x y v u Q I rx ry q hs
theorem tu {r:R2} (hr:IxR X r) (ha:PE X a ta) (hb:PE X b tb) (hs:PlainIx b):PE X (.Subscript a b pos) (tOp r ta tb):=by
 intro aa s U H Q I h
 exact Subscript_ (binT ha hb I h λv u s2 x y H2 I2 rx ry q=>hr a b aa s2 U H2 x y v u Q I2 rx ry q (hs _ _))
noncomputable def rIxL (K:PySem.W.Frag):R2:=λx y H Q=>∃ p xs i v,x=.ref p/\y=.int i/\SqL K H p xs/\atI xs i=some v/\Q v H
noncomputable def rIxT (K:PySem.W.Frag):R2:=λx y H Q=>∃ p xs i v,x=.ref p/\y=.int i/\SqT K H p xs/\atI xs i=some v/\Q v H
theorem vK:IxR X (rIxL X.K):=by
 intro value bo aa s U H x y v u Q I rx ry h hs
 obtain ⟨p,xs,i,z,rfl,rfl,hq,he,q⟩:=h
 cases rx
 obtain ⟨t,rfl⟩:=ry
 obtain ⟨ae,r,pl,hz⟩:=I.list hq
 obtain ⟨j,h1,h2,h3,h4,h5⟩:=uv he
 obtain ⟨w,ew,dM⟩:=r.get h2
 have hl:=r.length
 have hn:=line63
 have fin:EP X aa U Q w s:=⟨z,H,I,dM,q⟩
 by_cases h0:0<=i
 ·have hj:i.toNat=j:=by
   rw [seqIndex_of h0 h5] at h1
   exact Option.some.inj h1
  exact item_listR pl.isList h0 (by omega) (by rw [hj];simpa using ew) fin hs
 ·have hj:(i+(ae.toArray.size:Int)).toNat=j:=by
   rw [seqIndex_neg (by omega) h4] at h1
   rw [size_toArray,← hl]
   exact Option.some.inj h1
  exact subscriptTail_builtinR (x:=w) pl.isList.typeIs slot_list_getitem.lookup
   (wpAny_getItem_list_neg (Q:=λr s'=>r=w/\EP X aa U Q r s') pl.isList (by omega) (by rw [size_toArray]<;>omega) (by omega) (by rw [hj];simpa using ew) ⟨rfl,fin⟩) hs
theorem yS:IxR X (rIxT X.K):=by
 intro value bo aa s U H x y v u Q I rx ry h hs
 obtain ⟨p,xs,i,z,rfl,rfl,hq,he,q⟩:=h
 cases rx
 obtain ⟨t,rfl⟩:=ry
 obtain ⟨ae,r,pl,hz⟩:=I.tuple hq
 obtain ⟨j,h1,h2,h3,h4,h5⟩:=uv he
 obtain ⟨w,ew,dM⟩:=r.get h2
 have hl:=r.length
 have hn:=line63
 have fin:EP X aa U Q w s:=⟨z,H,I,dM,q⟩
 exact subscriptTail_builtinR (x:=w) pl.typeIs slot_tuple_getitem.lookup
  (getItem_tuple (j:=j) (Q:=λr s'=>r=w/\EP X aa U Q r s') pl (by omega) (by omega) (by rw [size_toArray,← hl];exact h1) (by simpa using ew) ⟨rfl,fin⟩) hs
theorem AJ (ae:List Value) (n j:Nat) (u:Value):mapSeq (·.setIfInBounds j u) { cls:=.type "list", data:=.seq ae.toArray n }={ cls:=.type "list", data:=.seq (ae.set j u).toArray n }:=by
 simp [mapSeq]
theorem Inv.lst {aa:List (Addr×Obj)}{U:St}{H:Hp}{s:Shared}{p:Addr}{xs:List V} (I:Inv X aa U H s) (h:H p=some (.lst xs)) :
  ∃ (ae:List Value) (n:Nat),Vals xs ae/\s.heap.get? p=some { cls:=.type "list", data:=.seq ae.toArray n }/\xs.length<=sizeLine:=by
 obtain ⟨z,ae,n,r,e⟩:=I.hok p _ h
 exact ⟨ae,n,r,e,z⟩
theorem Inv.lstUpd {aa:List (Addr×Obj)}{U:St}{H:Hp}{s:Shared}{p:Addr}{xs ys:List V}{ae its':List Value}{n n':Nat}{f:Obj->Obj} (I:Inv X aa U H s) (h:H p=some (.lst xs))
  (ho:s.heap.get? p=some { cls:=.type "list", data:=.seq ae.toArray n }) (hf:f { cls:=.type "list", data:=.seq ae.toArray n }={ cls:=.type "list", data:=.seq its'.toArray n' }) (r:Vals ys its') (hz:ys.length<=sizeLine) (t:Nat) :
  Inv X aa U (upd H p (.lst ys)) { s with heap:=s.heap.update p f,toks:=t }:=by
 have e:(s.heap.update p f).get? p=some { cls:=.type "list", data:=.seq its'.toArray n' }:=by
  rw [Heap.get?_update_self f ho (by rw [hf]<;>rfl),hf]
 refine I.write (x:=p) (e:=p) (by rw [h];trivial) (.inl rfl) (λb u hb q=>(get?_update_other _ _ (symm hb)).trans q) ⟨_,e⟩ ?_
 exact ⟨hz,its',n',r,e⟩
def rSetL:V->V->V->Hp->(Hp->Prop)->Prop:=λo i v H Q=>∃ p xs k j,o=.ref p/\i=.int k/\H p=some (.lst xs)/\ixN xs.length k=some j/\Q (upd H p (.lst (xs.set j v)))
theorem BX:PSet X rSetL:=by
 intro aa s U H o i v ov iv u Q I ro ri rv h
 obtain ⟨p,xs,k,j,rfl,rfl,hp,hj,q⟩:=h
 cases ro
 obtain ⟨t,rfl⟩:=ri
 obtain ⟨ae,n,r,ho,hz⟩:=I.lst hp
 obtain ⟨h1,h2,h3,h4⟩:=tL hj
 have hl:=r.length
 have hn:=line63
 have I':Inv X aa U (upd H p (.lst (xs.set j v))) { s with heap:=s.heap.update p (mapSeq (·.setIfInBounds j u)) } :=
  I.lstUpd hp ho (AJ ae n j u) (r.set rv j) (by rw [length_set];exact hz) s.toks
 by_cases h0:0<=k
 ·have hk:k.toNat=j:=by
   rw [seqIndex_of h0 h4] at h1
   exact Option.some.inj h1
  exact PySem.W.ki_setAt ho h0 (by omega) (by rw [size_toArray,← hl];exact h4) (by rw [hk];exact ⟨_,I',q⟩)
 ·have hk:(k+(ae.toArray.size:Int)).toNat=j:=by
   rw [seqIndex_neg (by omega) h3] at h1
   rw [size_toArray,← hl]
   exact Option.some.inj h1
  exact PySem.W.ki_setBack ho (by omega) (by rw [size_toArray,← hl];exact h3) (by omega) (by rw [hk];exact ⟨_,I',q⟩)
theorem B9 (lo hi:Option Int) (n:Nat):(sliceBounds lo hi none n).1=((HT.sIx n 0 lo:Nat):Int)/\(sliceBounds lo hi none n).2.1=((HT.sIx n n hi:Nat):Int)/\(sliceBounds lo hi none n).2.2=1:=by
 refine ⟨?_,?_,rfl⟩
 ·cases lo with
  | none=>simp [sliceBounds,HT.sIx]
  | some i =>
   simp only [sliceBounds,HT.sIx,getD_none,show (1:Int) > 0 by decide,if_true]
   by_cases h:i < 0
   ·simp only [h,if_true]<;>omega
   ·simp only [h,if_false]<;>omega
 ·cases hi with
  | none=>simp [sliceBounds,HT.sIx]
  | some i =>
   simp only [sliceBounds,HT.sIx,getD_none,show (1:Int) > 0 by decide,if_true]
   by_cases h:i < 0
   ·simp only [h,if_true]<;>omega
   ·simp only [h,if_false]<;>omega
theorem Bp (ae:List Value) (lo hi:Option Int):slicePick ae.toArray lo hi none=((ae.drop (HT.sIx ae.length 0 lo)).take (HT.sIx ae.length ae.length hi - HT.sIx ae.length 0 lo)).toArray:=by
 obtain ⟨h1,h2,h3⟩:=B9 lo hi ae.toArray.size
 unfold slicePick
 rw [h1,h2,h3]
 simp only [sliceRange_one,pick_run,size_toArray]<;>rfl
def rSlL (K:PySem.W.Frag):V->Option Int->Option Int->Hp->VK->Prop:=λx lo hi H Q=>∃ a xs,x=.ref a/\SqL K H a xs/\∀ p,H p=none->Q (.ref p) (upd H p (.lst (cutV xs lo hi)))
theorem xf:SlR X (rSlL X.K):=by
 intro aa s U H x v vl vu lo hi sl Q I rx hs pl pu h
 obtain ⟨a,xs,rfl,hx,q⟩:=h
 cases rx
 obtain ⟨ae,r,ht,hz⟩:=I.list hx
 have aE:=r.length
 refine ⟨"list", _,slot_list_getitem.lookup,ht.isList.typeIs,?_⟩
 refine wpAny_getItem_list_slice ht.isList hs pl pu .none (by simp) ?_ (by rw [size_toArray]<;>omega)
 rw [Bp,← aE]
 refine ⟨.ref s.heap.objs.size,_,I.laid (t':=s.toks) (o:=.lst (cutV xs lo hi)) (λb ob q=>get?_push_of_some _ q) (le_refl _) ?_,rfl,q _ (I.hok.fresh (le_refl _))⟩
 exact ⟨le_trans (wa xs lo hi) hz,_,0,(r.drop (HT.sIx xs.length 0 lo)).take (HT.sIx xs.length xs.length hi - HT.sIx xs.length 0 lo),get?_push_size _ rfl⟩
theorem Ch:CallR X (.builtin "len") (λxs H Q=>∃ p ys,xs=[.ref p]/\(SqL X.K H p ys\/SqT X.K H p ys)/\Q (.int ys.length) H):=by
 intro aa s U H xs us Q I r h
 obtain ⟨p,ys,rfl,hq,q⟩:=h
 obtain ⟨u,rfl,rx⟩:=vals1 r
 cases rx
 have hn:=line63
 rcases hq with hq | hq
 ·obtain ⟨ae,r',pl,hz⟩:=I.list hq
  have aE:=r'.length
  exact Calls.call_len_list pl.isList (by simp only [size_toArray]<;>omega) ⟨.int ys.length,H,I.tok _,⟨s.toks+1,by rw [size_toArray,aE]⟩,q⟩
 ·obtain ⟨ae,r',pl,hz⟩:=I.tuple hq
  have aE:=r'.length
  exact len_tuple pl (by simp only [size_toArray]<;>omega) ⟨.int ys.length,H,I.tok _,⟨s.toks+1,by rw [size_toArray,aE]⟩,q⟩
theorem yb:CallR X (.type "list") (λxs H Q=>∃ p ys,xs=[.ref p]/\(SqL X.K H p ys\/SqT X.K H p ys)/\∀ l,H l=none->Q (.ref l) (upd H l (.lst ys))):=by
 intro aa s U H xs us Q I r h
 obtain ⟨p,ys,rfl,hq,q⟩:=h
 obtain ⟨u,rfl,rx⟩:=vals1 r
 cases rx
 have fin:∀ (ae:List Value),Vals ys ae->ys.length<=sizeLine->∀ (h':Heap) (c':Nat),(∀ b o',s.heap.get? b=some o'->h'.get? b=some o') →
   h'.get? s.heap.objs.size=some { cls:=.type "list", dict:=none,data:=.seq ae.toArray c',slots:=#[] }->EP X aa U Q (.ref s.heap.objs.size) { s with heap:=h' }:=λae r' hz h' c' kp e =>
  ⟨.ref s.heap.objs.size,_,I.laid (t':=s.toks) kp (le_refl _) (show ObjOk X.prog X.w _ h' _ (.lst ys) from ⟨hz,ae,c',r',e⟩),rfl,q _ (I.hok.fresh (le_refl _))⟩
 rcases hq with hq | hq
 ·obtain ⟨ae,r',pl,hz⟩:=I.list hq
  have aE:=r'.length
  obtain ⟨o,ho,hc,n,hd⟩:=pl.isList
  exact call_list_seq p (.inl rfl) ho hc hd (λh' c' kp e=>fin ae r' hz h' c' kp e) (by simp only [size_toArray]<;>omega)
 ·obtain ⟨ae,r',pl,hz⟩:=I.tuple hq
  have aE:=r'.length
  obtain ⟨o,ho,hc,n,hd⟩:=pl
  exact call_list_seq p (.inr rfl) ho hc hd (λh' c' kp e=>fin ae r' hz h' c' kp e) (by simp only [size_toArray]<;>omega)
theorem yO:CallR X (.type "tuple") (λxs H Q=>∃ p ys,xs=[.ref p]/\((SqL X.K H p ys/\∀ l,H l=none->Q (.ref l) (upd H l (.tup ys)))\/(SqT X.K H p ys/\Q (.ref p) H))):=by
 intro aa s U H xs us Q I r h
 obtain ⟨p,ys,rfl,h⟩:=h
 obtain ⟨u,rfl,rx⟩:=vals1 r
 cases rx
 rcases h with ⟨hq,q⟩ | ⟨hq,q⟩
 ·obtain ⟨ae,r',pl,hz⟩:=I.list hq
  have aE:=r'.length
  refine call_tuple_list pl.isList (λh' kp=>?_) (by simp only [size_toArray]<;>omega)
  have I1:Inv X aa U H { s with heap:=h' }:=I.kept (t':=s.toks) kp
  have I2:Inv X aa U (upd H h'.objs.size (.tup ys)) { s with heap:=h'.push { cls:=.type "tuple", data:=.seq ae.toArray } } :=
   I1.laid (t':=s.toks) (λb o e=>get?_push_of_some _ e) (le_refl _) (show ObjOk X.prog X.w _ _ _ (.tup ys) from ⟨hz,ae,r',IsTup.new _ _⟩)
  exact ⟨.ref h'.objs.size,_,I2,rfl,q _ (I1.hok.fresh (le_refl _))⟩
 ·obtain ⟨ae,r',pl,hz⟩:=I.tuple hq
  exact call_tuple_same pl ⟨.ref p,H,I,rfl,q⟩
def tyV (K:PySem.W.Frag) (T:String) (x:V) (H:Hp):Prop:=match x with
 | .str _=>T = "str"
 | .int _=>T = "int"
 | .ref p=>(T = "list"/\∃ xs,SqL K H p xs)\/(T = "tuple"/\∃ o,K.lookup p=some o/\o.cls=.type "tuple"/\o.dict=none) ∨
   (T = "dict"/\((∃ aC,H p=some (.dK aC))\/∃ aC,H p=some (.dT aC)))\/(T = "set"/\∃ S n,H p=some (.set S n))
 | _=>False
theorem xI {aa:List (Addr×Obj)}{U:St}{H:Hp}{s:Shared}{T:String}{x:V}{v:Value} (I:Inv X aa U H s) (r:RelV x v) (ty:tyV X.K T x H) :
  s.TypeIs v T/\∀ a,v=.ref a->∃ ob,s.heap.get? a=some ob/\ob.dict=none:=by
 cases x with
 | str z =>
  obtain ⟨t,rfl⟩:=r
  cases (show T = "str" from ty)
  exact ⟨typeIs_str s z t,λ_ e=>nomatch e⟩
 | int i =>
  obtain ⟨t,rfl⟩:=r
  cases (show T = "int" from ty)
  exact ⟨typeIs_int s i t,λ_ e=>nomatch e⟩
 | ref p =>
  cases r
  rcases ty with ⟨rfl,xs,hq⟩ | ⟨rfl,o,hk,hc,hd⟩ | ⟨rfl,hk⟩ | ⟨rfl,S,n,hk⟩
  ·obtain ⟨ae,_,pl,_⟩:=I.list hq
   refine ⟨pl.isList.typeIs,λa e=>?_⟩
   cases e
   obtain ⟨o,n,e,c,hd,_⟩:=pl
   exact ⟨o,e,hd⟩
  ·refine ⟨⟨o,I.kIn p o hk,hc⟩,λa e=>?_⟩
   cases e
   exact ⟨o,I.kIn _ o hk,hd⟩
  ·have z:∃ o,s.heap.get? p=some o/\o.ExactDict:=by
    rcases hk with ⟨aC,hk⟩ | ⟨aC,hk⟩
    ·obtain ⟨_,_,_,_,o,_,_,e,ex,_⟩:=I.hok p _ hk
     exact ⟨o,e,ex⟩
    ·obtain ⟨_,_,_,_,o,_,_,e,ex,_⟩:=I.hok p _ hk
     exact ⟨o,e,ex⟩
   obtain ⟨o,e,ex⟩:=z
   refine ⟨⟨o,e,ex.1⟩,λa e2=>?_⟩
   cases e2
   exact ⟨o,e,ex.2.1⟩
  ·obtain ⟨o,_,_,_,e,ex,_⟩:=I.hok p _ hk
   refine ⟨⟨o,e,ex.1⟩,λa e2=>?_⟩
   cases e2
   exact ⟨o,e,ex.2.1⟩
 | _=>exact elim ty
noncomputable def tBM (K:PySem.W.Frag) (T:String) (r:V->List V->Hp->VK->Prop) (to:TE) (t:TA):TE:=λU H Q=>to U H λx H1=>tyV K T x H1/\t U H1 λxs H2=>r x xs H2 Q
variable {o e:Expr}{es:List Expr}{to:TE}{t:TA}{name:Str}{aA aj:Pos}{T id:String}{r:V->List V->Hp->VK->Prop}
theorem sB (pa:PlainAttrs T) (slot:Slot T name id) (jF:typeOf (.builtin id)=pure (.type "method_descriptor")) (hm:MtR X id r) (ho:PE X o to) (ha:PA X (e::es) t)
  (bp:attributeBase o name X.env (eval o X.env)=eval o X.env:=by rfl)
  (bQ:((backTo aj (starEach (e::es) X.env)).all (λx=>!x.1)&&(backToKw aj (keywordEach [] X.env)).all (λx=>x.1.isSome)
   &&decide ((e::es).length+([]:List Keyword).length+(if ([]:List Keyword).isEmpty then 0 else 1) < 30))=true:=by rfl)
  (bq:(aA.endLine == aj.line)=true:=by rfl) (hs:starEach (e::es) X.env=(false,eval e X.env)::starEach es X.env:=by rfl) (ba:(backTo aj (starEach es X.env)).any (·.1)=false:=by rfl) :
  PE X (.Call (.Attribute o name aA) (e::es) [] aj) (tBM X.K T r to t):=by
 intro aa s U H Q I h
 refine wpAny_Call_method_late bp bQ bq rfl (thn (ho aa s U H _ I h) λv s1 ⟨x,H1,I1,r1,ty,q1⟩=>?_)
 obtain ⟨h1,h2⟩:=xI I1 r1 ty
 refine ⟨T,id,pa,slot,jF,h1,h2,?_⟩
 have hA:=ha aj aa s1 U H1 _ I1 q1
 rw [hs] at hA ⊢
 refine Calls.callWith_builtin (by show (false||(backTo aj (starEach es X.env)).any (·.1))=false;rw [ba]<;>rfl) (Calls.evalArgs_plain ?_)
 exact thn hA λus s2 ⟨vs,H2,I2,r2,q2⟩=>hm aa s2 U H2 x vs v us Q I2 r1 r2 q2
end
def MtM (X:Cx) (id:String) (r:V->List V->Hp->VK->Prop):Prop :=
 ∀ (aa:List (Addr×Obj)) (s:Shared) (U:St) (H:Hp) (x:V) (xs:List V) (v:Value) (us:List Value) (Q:VK),Inv X aa U H s->RelV x v->Vals xs us->r x xs H Q →
  wpAny (model X.prog X.w) X.A (call (.builtin id) (v::us)) (EP X aa U Q) X.xe s
theorem Vals.one:∀ {x:V}{us:List Value},Vals [x] us->∃ u,us=[u]/\RelV x u
 | _,_,.cons r .nil=>⟨_,rfl,r⟩
theorem Vals.two:∀ {x y:V}{us:List Value},Vals [x,y] us->∃ u v,us=[u,v]/\RelV x u/\RelV y v
 | _,_,_,.cons r (.cons q .nil)=>⟨_,_,rfl,r,q⟩
section
variable {X:Cx}{aa:List (Addr×Obj)}{U:St}{H:Hp}{s:Shared}{l b:Addr}{xs ys zs:List V}
theorem Inv.lset {ae its':List Value}{n:Nat}{f:Array Value->Array Value}{t':Nat} (I:Inv X aa U H s) (hH:H l=some (.lst xs))
  (e:s.heap.get? l=some { cls:=.type "list", data:=.seq ae.toArray n }) (hf:f ae.toArray=its'.toArray) (hv:Vals ys its') (hz:ys.length<=sizeLine) :
  Inv X aa U (upd H l (.lst ys)) { s with heap:=s.heap.update l (mapSeq f),toks:=t' }:=by
 have q:=PySem.IsL.update e f
 rw [hf] at q
 refine I.write (x:=l) (e:=l) (by rw [hH];exact trivial) (.inl rfl) (λb' u hb hu=>(get?_update_other s.heap (mapSeq f) (symm hb)).trans hu) ⟨_,q⟩ ?_
 exact ⟨hz,its',_,hv,q⟩
theorem Inv.lnew {ae:List Value}{t':Nat} (I:Inv X aa U H s) (hv:Vals ys ae) (hz:ys.length<=sizeLine) :
  Inv X aa U (upd H s.heap.objs.size (.lst ys)) { s with heap:=s.heap.push { cls:=.type "list", data:=.seq ae.toArray },toks:=t' } :=
 I.laid (λ_ _ q=>get?_push_of_some _ q) (le_refl _) ⟨hz,ae,0,hv,get?_push_size _ rfl⟩
theorem Inv.fresh (I:Inv X aa U H s):H s.heap.objs.size=none:=I.hok.fresh (le_refl _)
theorem Inv.lstM (I:Inv X aa U H s) (hH:H l=some (.lst xs)):xs.length<=sizeLine/\∃ (ae:List Value) (n:Nat),Vals xs ae/\xs.length=ae.length/\s.heap.get? l=some { cls:=.type "list", data:=.seq ae.toArray n }:=by
 obtain ⟨z,ae,n,r,e⟩:=I.hok l _ hH
 exact ⟨z,ae,n,r,r.length,e⟩
theorem notLongL {n:Nat} (h:n<=sizeLine):listTooLong n=false:=by
 unfold listTooLong
 exact decide_eq_false (by omega)
end
section
variable {X:Cx}
def rAppend:V->List V->Hp->VK->Prop:=λx vs H Q=>∃ l xs y,x=.ref l/\vs=[y]/\H l=some (.lst xs)/\xs.length < sizeLine/\Q .non (upd H l (.lst (xs++[y])))
theorem v5:MtM X "list.append" rAppend:=by
 intro aa s U H x vs v us Q I rx rv h
 obtain ⟨l,xs,y,rfl,rfl,hH,hz,q⟩:=h
 cases rx
 obtain ⟨u,rfl,ru⟩:=rv.one
 obtain ⟨z,ae,n,r,hl,e⟩:=I.lstM hH
 refine call_meets F.slot_list_append ⟨_,e,rfl⟩ F.entry_list_append (F.args_list_append_2 _ _) (PySem.list_append l ae.toArray n u (by rw [size_toArray];omega)) ⟨e,?_⟩
 refine ⟨.non,_,I.lset (its':=ae++[u]) hH e (by simp) (r.append (.cons ru .nil)) ?_,rfl,q⟩
 rw [length_append,List.length_singleton]
 omega
end
end L2
namespace Att
open PySem PySem.W PySem.Calls PyProof.Rows
theorem Bk {P:Params}{h:Heap}:∀ (ns:List Int) (vs:List Value),WellAll P h vs (ns.map WData.int)->IntsAre vs ns:=by
 intro ns
 induction ns with
 | nil =>
  intro vs w
  rw [List.map_nil] at w
  cases w
  exact .nil
 | cons n ns ih =>
  intro vs w
  rw [map_cons] at w
  cases w with
  | cons a b =>
   cases a
   exact .cons _ _ (ih _ b)
theorem AO {l:OpenLaw}{n:Nat} (hn:l.most=some n){P:Params}{h:Heap}{args:List WData}{dN:List Value}
  (cZ:l.row.toRowW.claim.pre args=true) (fT:WellAll P h dN args) :
  ∃ a vs ns,dN=[Value.ref a]/\args=[WData.list (ns.map WData.int)]/\h.get? a=some { cls:=.type "list", data:=.seq vs.toArray }/\IntsAre vs ns/\ns.length<=n:=by
 have jG:WShape.hasAll [] args [.list .int]=true:=(pre_splitW cZ).1
 have hc:l.pre.holds [] { args:=args }=true:=(pre_splitW cZ).2
 obtain ⟨d,r,rfl,h1,h2⟩:=hasAllW_cons jG
 obtain rfl:=hasAllW_nil h2
 obtain ⟨xs,rfl,h3⟩:=hasW_list h1
 obtain ⟨ns,rfl⟩:=items_int h3
 have aE:ns.length<=n:=by
  unfold OpenLaw.pre at hc
  have h4:(WTm.not (.lt (.lit (.int (n:Int))) (.len (.arg 0)))).holds [] { args:=[.list (ns.map .int)] }=true:=by
   have h4:=(holds_andW hc).1
   rw [hn] at h4
   exact h4
  have h5:=condW_of h4 (w_not (w_lt w_lit (w_len_list (w_arg rfl))))
  rw [length_map] at h5
  refine Nat.le_of_not_lt λq=>?_
  have q':(n:Int) < ((ns.length:Nat):Int):=by omega
  first
   | (rw [decide_eq_true q'] at h5;exact absurd h5 (by decide))
   | (simp at h5;omega)
 cases fT with
 | cons w1 w2 =>
  cases w2
  cases w1 with
  | list ho hall=>exact ⟨_,_,ns,rfl,rfl,ho,Bk ns _ hall,aE⟩
theorem xi (l:OpenLaw) (args:List WData):l.row.toRowW.claim.post args (.bool true) args=true :=
 postW_of (r:=l.row.toRowW) (X:=(true == true))
  (show WShape.has [] (.bool true) .bool=true by first | rfl | decide | simp [WShape.has,WShape.arms,WShape.armsAll])
  (show (WTm.eq .res (.lit (.bool true))).value [] { args:=args,res:=some (.bool true),after:=args }=some (.bool (true == true)) from w_eq_bool (w_res rfl) w_lit) rfl
theorem zf {l:OpenLaw}{n:Nat}{q:Program}{bz:List Str}{XP:(Str->Option Value)->Heap->Prop}{YP:World->Heap->Prop}{d:DefRec}
  (hn:l.most=some n) (dO:d.params.defaults=[])
  (call:∀ (w:World) (s₀ al:Shared) (mg mb:Str->Option Value) (fa:Addr) (o:Obj) (pm cd aZ:Value) (a:Addr) (vs:List Value) (ns:List Int),
   Ground q bz [] XP w s₀ mg mb al.heap->YP w al.heap →
   al.heap.get? fa=some o->o.data=.func (docDef d.name d.params d.body d.scope pm cd aZ)->al.heap.CodeRec cd d.name->mg d.name=some (.ref fa) →
   al.heap.get? a=some { cls:=.type "list", data:=.seq vs.toArray }->IntsAre vs ns->ns.length<=n->al.gens=#[] →
   codeAny (model l.prog w) callerA (.call (.ref fa) ⟨[.ref a],[]⟩) (λr s'=>r=.ok (.ret (.bool true))/\OldK al.heap s'.heap/\s'.os=al.os/\AllBare s'.gens) al) :
  WalkO q bz XP YP l.row.toRowW d [] (λf vs=>PySem.call f vs):=by
 intro w s₀ al mg mb G l8 fa o pm cd aZ dV kV ho hd bh hD dP hg args dN as cZ lr iy fT iz
 obtain rfl:dV=.none:=Dflts.none hD dO
 obtain rfl:kV=.none:=Dflts.noKw hD
 obtain ⟨a,vs,ns,rfl,rfl,dQ,cJ,aE⟩:=AO hn cZ fT
 refine enter_call (codeAny_mono (call w s₀ al mg mb fa o pm cd aZ a vs ns G l8 ho (fd_plain hd) bh dP dQ cJ aE hg) λr s' hq=>?_)
 obtain ⟨rfl,h2,h3,h4⟩:=hq
 exact ⟨.inl ⟨.bool true,.bool true,[],rfl,λ_=>rfl,.bool true,xi l _,λ_=>⟨List.Pairwise.nil,λ_ hm=>(nomatch hm)⟩⟩,h2,h3,h4⟩
end Att
namespace L2
open PySem PySem.Spec PyProof.Rows
theorem u3:∀ {vs:List Value}{ns:List Int},IntsAre vs ns->Vals (ns.map V.int) vs
 | _,_,.nil=>.nil
 | _,_,.cons n t h=>.cons ⟨t,rfl⟩ (u3 h)
def Only (H:Hp):Prop:=∀ b,H b=none\/∃ o xs,H b=some (.frz o (.lst xs))
noncomputable def defArgs (s:Stmt):Arguments:=match s with
 | .FunctionDef _ a _ _ _ _ _ _ _ _=>a
 | _=>{ posonlyargs:=[],args:=[],vararg:=none,kwonlyargs:=[],kw_defaults:=[],kwarg:=none,defaults:=[] }
noncomputable def defBody (s:Stmt):List Stmt:=match s with
 | .FunctionDef _ _ b _ _ _ _ _ _ _=>b
 | _=>[]
noncomputable def defScope (s:Stmt):Scope:=match s with
 | .FunctionDef _ _ _ _ _ _ sc _ _ _=>sc
 | _=>{ kind:=.function,names:=[],isGenerator:=false,isCoroutine:=false }
noncomputable abbrev CX0:CXT:=λ_ _ _ _ _ _=>False
noncomputable abbrev E0:XK:=λ_ _ _=>False
theorem pass0 {X:Cx}:Passes CX0 X E0:=λ_ _ _ _ _ _ _ h=>h.elim
structure Fun (K:PySem.W.Frag) (x qual:Str) (st:Stmt) (f:Addr) (fd:FuncData):Prop where
 ex:∃ (oc:Value) (od:Option Addr) (kV aZ pm:Value) (an:Option Addr) (am ct:Value) (bP:Array (Option Value)),
  fd=fnOf x qual (defArgs st) (defBody st) (defScope st) .none kV aZ pm an am ct/\K.lookup f=some ⟨oc,od,.func fd,bP⟩/\codeIn K am qual=true
 kp:PySem.W.keepIn K (.ref f)=true
section
variable {P:Program}{w:World}{K:PySem.W.Frag}{mg:Str->Option Value}{base:Heap}
theorem Fun.ok {x qual:Str}{st:Stmt}{f:Addr}{fd:FuncData}{N ps:List Str}{k:Nat}{sp:Sp} (F:Fun K x qual st f fd) (S:FnScope N ps (defScope st)) (len:∀ vs H Q E,sp vs H Q E->vs.length=ps.length)
  (cH:∀ (am:Value) (A:Around) (outer:List Env) (s:Shared) (H:Hp) (vs:List V) (Q:VK) (E:XK),Room k (A.deeper (envOfC qual (defScope st) s.heap.objs.size f am))->sp vs H Q E →
   ∃ t,PSs (cxOf CX0 P w K mg base N qual (defScope st) f am A outer s H E).nox (defBody st) t/\t { nx:=λ_ H'=>Q .non H',rt:=Q } (start N vs) H):FnOk P w K mg base CX0 (k+1) f fd ps sp:=by
 obtain ⟨oc,od,kV,aZ,pm,an,am,ct,bP,rfl,lk,bh⟩:=F.ex
 refine uH lk bh S len λA outer s H vs Q E hr cw=>?_
 obtain ⟨t,h,q⟩:=cH am A outer s H vs Q E hr cw
 exact ⟨t,h.nox,q⟩
theorem Fun.binds {x qual:Str}{st:Stmt}{f:Addr}{fd:FuncData}{ps:List Str} (F:Fun K x qual st f fd)
  (h:∀ (kV aZ pm:Value) (an:Option Addr) (am ct:Value) (us:List Value),us.length=ps.length->bindArgs (fnOf x qual (defArgs st) (defBody st) (defScope st) .none kV aZ pm an am ct) ⟨us,[]⟩=pure (ps.zip us)):Binds K fd ps []:=by
 obtain ⟨oc,od,kV,aZ,pm,an,am,ct,bP,rfl,lk,bh⟩:=F.ex
 exact .all (h kV aZ pm an am ct)
theorem ur {x qual:Str}{st:Stmt}{f:Addr}{oc:Value}{od an:Option Addr}{bP:Array (Option Value)}{kV aZ pm am ct:Value} (l:K.lookup f=some ⟨oc,od,.func (fnOf x qual (defArgs st) (defBody st) (defScope st) .none kV aZ pm an am ct),bP⟩)
  (c:codeIn K am qual=true) (k:PySem.W.keepIn K (.ref f)=true):Fun K x qual st f (fnOf x qual (defArgs st) (defBody st) (defScope st) .none kV aZ pm an am ct):=⟨⟨oc,od,kV,aZ,pm,an,am,ct,bP,rfl,l,c⟩,k⟩
end
section
variable {X:Cx}
theorem pv (i:Nat){x:Str}{pos:Pos} (hN:X.N[i]?=some x:=by rfl) (hv:visB X.env.scope x=true:=by rfl) (hd:(x == ("__debug__":Str))=false:=by decide)
  (bh:(x == ("__classdict__":Str))=false:=by decide):PE X (.Name x pos) (tVar i):=xl hN (visI hv) hd bh
end
theorem iteF {A B:Prop} (h:B):if false=true then A else B:=by
 rw [if_neg Bool.false_ne_true]
 exact h
theorem iteT {A B:Prop} (h:A):if true=true then A else B:=by
 rw [if_pos rfl]
 exact h
def Same (H H':Hp):Prop:=∀ b o,H b=some o->H' b=some o
theorem Same.refl (H:Hp):Same H H:=λ_ _ h=>h
theorem Same.trans {H H1 H2:Hp} (a:Same H H1) (b:Same H1 H2):Same H H2:=λc o h=>b c o (a c o h)
theorem Same.free {H H':Hp} (e:Same H H'){l:Addr} (h:H' l=Option.none):H l=Option.none:=by
 cases q:H l with
 | none=>rfl
 | some o =>
  rw [e l o q] at h
  cases h
structure M1 (X:Cx) (o:Expr) (m:Str) (aA:Pos) (e:Expr) (aj:Pos):Prop where
 base:attributeBase o m X.env (eval o X.env)=eval o X.env
 few:((backTo aj (starEach [e] X.env)).all (λx=>!x.1)&&(backToKw aj (keywordEach [] X.env)).all (λx=>x.1.isSome)
  &&decide (([e]:List Expr).length+([]:List Keyword).length+(if ([]:List Keyword).isEmpty then 0 else 1) < 30))=true
 line:(aA.endLine == aj.line)=true
 trees:backTo aj (starEach [e] X.env)=[(false,eval e X.env)]
structure M2 (X:Cx) (o:Expr) (m:Str) (aA:Pos) (e f:Expr) (aj:Pos):Prop where
 base:attributeBase o m X.env (eval o X.env)=eval o X.env
 few:((backTo aj (starEach [e,f] X.env)).all (λx=>!x.1)&&(backToKw aj (keywordEach [] X.env)).all (λx=>x.1.isSome)
  &&decide (([e,f]:List Expr).length+([]:List Keyword).length+(if ([]:List Keyword).isEmpty then 0 else 1) < 30))=true
 line:(aA.endLine == aj.line)=true
 trees:backTo aj (starEach [e,f] X.env)=[(false,eval e X.env),(false,eval f X.env)]
end L2
set_option maxHeartbeats 4000000
namespace DL
open PySem PySem.Spec PyProof.Rows L2
inductive D where
 | non | bl (b:Bool) | int (i:Int) | str (x:Str) | tup (xs:List D) | lst (xs:List D) | exc (x:Str) (n:Option Int)
noncomputable def clOf (K:PySem.W.Frag) (x:Str):Addr:=match PySem.W.nsIn K mainGlobals x with
 | some (some (.ref C))=>C
 | _=>0
noncomputable def ExO (K:PySem.W.Frag) (a:Addr) (x:Str) (d:Option Addr):HO:=.ext λh=>∃ o vs,h.get? a=some o/\o.cls=.ref (clOf K x)/\o.data=.fields vs/\∀ dx,d=some dx->o.dict=some dx
def ExN (I:Hp) (d:Option Addr) (n:Option Int):Prop:=∀ k,n=some k->∃ dx,d=some dx/\I dx=some (.xd [("number", .int k)])
def RdK (K:PySem.W.Frag) (I:Hp) (a:Addr) (xs:List V):Prop:=Rd I a (.lst xs)\/∃ (ae:List Value) (n:Nat),K.lookup a=some { cls:=.type "list", data:=.seq ae.toArray n }/\Vals xs ae/\ae.length<=sizeLine
theorem RdK.of {K:PySem.W.Frag}{I:Hp}{a:Addr}{xs:List V} (h:I a=some (.lst xs)):RdK K I a xs:=.inl (.inl h)
theorem RdK.sq {K:PySem.W.Frag}{I:Hp}{a:Addr}{xs:List V} (h:RdK K I a xs):SqL K I a xs:=by
 rcases h with h | ⟨ae,n,h1,h2,h3⟩
 ·exact .inl h
 ·exact .inr ⟨_,ae.toArray,n,h1,rfl,rfl,rfl,by simpa using h3,by simpa using h2⟩
mutual
def Is (K:PySem.W.Frag) (I:Hp):D->V->Prop
 | .non,v=>v=.non
 | .bl b,v=>v=.bl b
 | .int i,v=>v=.int i
 | .str x,v=>v=.str x
 | .tup ds,v=>∃ a xs,v=.ref a/\SqT K I a xs/\IsA K I ds xs
 | .lst ds,v=>∃ a xs,v=.ref a/\RdK K I a xs/\IsA K I ds xs
 | .exc x n,v=>∃ a d,v=.ref a/\I a=some (ExO K a x d)/\ExN I d n
def IsA (K:PySem.W.Frag) (I:Hp):List D->List V->Prop
 | [],xs=>xs=[]
 | d::ds,xs=>∃ x r,xs=x::r/\Is K I d x/\IsA K I ds r
end
section
variable {K:PySem.W.Frag}{I I' H:Hp}
theorem Same.rd {a:Addr}{o:HO} (e:Same I I') (h:Rd I a o):Rd I' a o:=by
 rcases h with h | ⟨u,h⟩
 ·exact .inl (e _ _ h)
 ·exact .inr ⟨u,e _ _ h⟩
theorem Same.rdK {a:Addr}{xs:List V} (e:Same I I') (h:RdK K I a xs):RdK K I' a xs:=by
 rcases h with h | h
 ·exact .inl (Same.rd e h)
 ·exact .inr h
theorem Same.sqT {a:Addr}{xs:List V} (e:Same I I') (h:SqT K I a xs):SqT K I' a xs:=by
 rcases h with h | h
 ·exact .inl (Same.rd e h)
 ·exact .inr h
mutual
theorem Is.mono (e:Same I I'):∀ {d:D}{v:V},Is K I d v->Is K I' d v
 | .non,_,h=>by rw [Is] at h ⊢;exact h
 | .bl _,_,h=>by rw [Is] at h ⊢;exact h
 | .int _,_,h=>by rw [Is] at h ⊢;exact h
 | .str _,_,h=>by rw [Is] at h ⊢;exact h
 | .tup ds,v,h=>by
  rw [Is] at h ⊢
  obtain ⟨a,xs,e1,e2,e3⟩:=h
  exact ⟨a,xs,e1,Same.sqT e e2,IsA.mono e e3⟩
 | .lst ds,v,h=>by
  rw [Is] at h ⊢
  obtain ⟨a,xs,e1,e2,e3⟩:=h
  exact ⟨a,xs,e1,Same.rdK e e2,IsA.mono e e3⟩
 | .exc x n,v,h=>by
  rw [Is] at h ⊢
  obtain ⟨a,d,e1,e2,e3⟩:=h
  exact ⟨a,d,e1,e _ _ e2,λk z=>let ⟨dx,q1,q2⟩:=e3 k z;⟨dx,q1,e _ _ q2⟩⟩
theorem IsA.mono (e:Same I I'):∀ {ds:List D}{xs:List V},IsA K I ds xs->IsA K I' ds xs
 | [],_,h=>by rw [IsA] at h ⊢;exact h
 | d::ds,xs,h=>by
  rw [IsA] at h ⊢
  obtain ⟨x,r,e1,e2,e3⟩:=h
  exact ⟨x,r,e1,Is.mono e e2,IsA.mono e e3⟩
end
theorem IsA.nil:IsA K I [] []:=by rw [IsA]
theorem IsA.cons {d:D}{ds:List D}{x:V}{xs:List V} (h:Is K I d x) (t:IsA K I ds xs):IsA K I (d::ds) (x::xs):=by
 rw [IsA];exact ⟨x,xs,rfl,h,t⟩
theorem IsA.nil_inv {xs:List V} (h:IsA K I [] xs):xs=[]:=by rw [IsA] at h;exact h
theorem IsA.cons_inv {d:D}{ds:List D}{xs:List V} (h:IsA K I (d::ds) xs):∃ x r,xs=x::r/\Is K I d x/\IsA K I ds r:=by rw [IsA] at h;exact h
theorem IsA.length:∀ {ds:List D}{xs:List V},IsA K I ds xs->ds.length=xs.length
 | [],xs,h=>by rw [h.nil_inv]<;>rfl
 | d::ds,xs,h=>by
  obtain ⟨x,r,rfl,_,t⟩:=h.cons_inv
  simp [IsA.length t]
theorem IsA.get:∀ {ds:List D}{xs:List V}{i:Nat}{d:D},IsA K I ds xs->ds[i]?=some d->∃ x,xs[i]?=some x/\Is K I d x
 | [],xs,i,d,h,e=>by simp at e
 | c::ds,xs,0,d,h,e=>by
  obtain ⟨x,r,rfl,hx,t⟩:=h.cons_inv
  simp at e;subst e
  exact ⟨x,rfl,hx⟩
 | c::ds,xs,i+1,d,h,e=>by
  obtain ⟨x,r,rfl,hx,t⟩:=h.cons_inv
  obtain ⟨y,e1,e2⟩:=IsA.get (i:=i) t (by simpa using e)
  exact ⟨y,by simpa using e1,e2⟩
theorem IsA.append:∀ {ds es:List D}{xs ys:List V},IsA K I ds xs->IsA K I es ys->IsA K I (ds++es) (xs++ys)
 | [],es,xs,ys,h,t=>by rw [h.nil_inv];exact t
 | d::ds,es,xs,ys,h,t=>by
  obtain ⟨x,r,rfl,hx,h'⟩:=h.cons_inv
  exact IsA.cons hx (IsA.append h' t)
theorem IsA.take:∀ {ds:List D}{xs:List V} (n:Nat),IsA K I ds xs->IsA K I (ds.take n) (xs.take n)
 | ds,xs,0,h=>by rw [List.take_zero,List.take_zero];exact IsA.nil
 | [],xs,n+1,h=>by rw [h.nil_inv];exact IsA.nil
 | d::ds,xs,n+1,h=>by
  obtain ⟨x,r,rfl,hx,h'⟩:=h.cons_inv
  rw [List.take_succ_cons,List.take_succ_cons]
  exact IsA.cons hx (IsA.take n h')
theorem IsA.drop:∀ {ds:List D}{xs:List V} (n:Nat),IsA K I ds xs->IsA K I (ds.drop n) (xs.drop n)
 | ds,xs,0,h=>by rw [List.drop_zero,List.drop_zero];exact h
 | [],xs,n+1,h=>by rw [h.nil_inv];exact IsA.nil
 | d::ds,xs,n+1,h=>by
  obtain ⟨x,r,rfl,hx,h'⟩:=h.cons_inv
  rw [drop_succ_cons,drop_succ_cons]
  exact IsA.drop n h'
theorem IsA.set {d:D}{x:V} (q:Is K I d x):∀ {ds:List D}{xs:List V} (n:Nat),IsA K I ds xs->IsA K I (ds.set n d) (xs.set n x)
 | [],xs,n,h=>by rw [h.nil_inv];exact IsA.nil
 | c::ds,xs,0,h=>by
  obtain ⟨y,r,rfl,hx,h'⟩:=h.cons_inv
  exact IsA.cons q h'
 | c::ds,xs,n+1,h=>by
  obtain ⟨y,r,rfl,hx,h'⟩:=h.cons_inv
  exact IsA.cons hx (IsA.set q n h')
theorem IsA.one {d:D}{xs:List V} (h:IsA K I [d] xs):∃ x,xs=[x]/\Is K I d x:=by
 obtain ⟨x,r,rfl,hx,t⟩:=h.cons_inv
 rw [t.nil_inv]
 exact ⟨x,rfl,hx⟩
theorem IsA.two {d e:D}{xs:List V} (h:IsA K I [d,e] xs):∃ x y,xs=[x,y]/\Is K I d x/\Is K I e y:=by
 obtain ⟨x,r,rfl,hx,t⟩:=h.cons_inv
 obtain ⟨y,rfl,hy⟩:=t.one
 exact ⟨x,y,rfl,hx,hy⟩
theorem mn {i:Int}{v:V} (h:Is K I (.int i) v):v=.int i:=by rw [Is] at h;exact h
theorem mP {i:Bool}{v:V} (h:Is K I (.bl i) v):v=.bl i:=by rw [Is] at h;exact h
theorem mU {i:Str}{v:V} (h:Is K I (.str i) v):v=.str i:=by rw [Is] at h;exact h
theorem mV {v:V} (h:Is K I .non v):v=.non:=by rw [Is] at h;exact h
theorem mv {ds:List D}{v:V} (h:Is K I (.tup ds) v):∃ a xs,v=.ref a/\SqT K I a xs/\IsA K I ds xs:=by rw [Is] at h;exact h
theorem mx {ds:List D}{v:V} (h:Is K I (.lst ds) v):∃ a xs,v=.ref a/\RdK K I a xs/\IsA K I ds xs:=by rw [Is] at h;exact h
theorem qy {x:Str}{n:Option Int}{v:V} (h:Is K I (.exc x n) v):∃ a d,v=.ref a/\I a=some (ExO K a x d)/\ExN I d n:=by rw [Is] at h;exact h
theorem Is.exc {x:Str}{n:Option Int}{a:Addr}{d:Option Addr} (h:I a=some (ExO K a x d)) (q:ExN I d n):Is K I (.exc x n) (.ref a):=by rw [Is];exact ⟨a,d,rfl,h,q⟩
theorem Is.int (i:Int):Is K I (.int i) (.int i):=by rw [Is]
theorem Is.bl (i:Bool):Is K I (.bl i) (.bl i):=by rw [Is]
theorem Is.str (i:Str):Is K I (.str i) (.str i):=by rw [Is]
theorem Is.non:Is K I .non .non:=by rw [Is]
theorem Is.tup {ds:List D}{a:Addr}{xs:List V} (h:SqT K I a xs) (t:IsA K I ds xs):Is K I (.tup ds) (.ref a):=by rw [Is];exact ⟨a,xs,rfl,h,t⟩
theorem Is.lst {ds:List D}{a:Addr}{xs:List V} (h:RdK K I a xs) (t:IsA K I ds xs):Is K I (.lst ds) (.ref a):=by rw [Is];exact ⟨a,xs,rfl,h,t⟩
end
inductive R where
 | val (d:D) | own (ds:List D) | bor (ds:List D) | fro (ds:List D) | dic (aC:List (Int×D))
noncomputable def R.mut:R->Bool
 | .val _=>false
 | .own _=>true
 | .bor _=>true
 | .fro _=>false
 | .dic _=>false
noncomputable def R.ptr:R->Bool
 | .val _=>false
 | .own _=>true
 | .bor _=>true
 | .fro _=>false
 | .dic _=>true
abbrev Gm:=List (Option R)
def Mt (K:PySem.W.Frag) (G I H:Hp) (ds:List D) (v:V):Prop:=∃ p xs,v=.ref p/\H p=some (.lst xs)/\I p=none/\G p=none/\IsA K I ds xs
def IsK (K:PySem.W.Frag) (I:Hp) (aC:List (Int×D)) (xs:List (Key×V)):Prop:=xs.map (·.1)=aC.map (λq=>inl q.1)/\IsA K I (aC.map (·.2)) (xs.map (·.2))
theorem IsK.mono {K:PySem.W.Frag}{I I':Hp}{aC:List (Int×D)}{xs:List (Key×V)} (e:Same I I') (h:IsK K I aC xs):IsK K I' aC xs:=⟨h.1,h.2.mono e⟩
def MtK (K:PySem.W.Frag) (G I H:Hp) (aC:List (Int×D)) (v:V):Prop:=∃ p xs,v=.ref p/\H p=some (.dK xs)/\I p=none/\G p=none/\IsK K I aC xs
def SlotOk (K:PySem.W.Frag) (G I H:Hp):R->V->Prop
 | .val d,v=>Is K I d v
 | .own ds,v=>Mt K G I H ds v
 | .bor ds,v=>Mt K G I H ds v
 | .fro ds,v=>∃ p xs,v=.ref p/\I p=some (.lst xs)/\G p=none/\IsA K I ds xs
 | .dic aC,v=>MtK K G I H aC v
theorem SlotOk.mt {K:PySem.W.Frag}{G I H:Hp}{r:R}{v:V} (h:SlotOk K G I H r v) (m:r.ptr=true):∃ p xs,v=.ref p/\H p=some xs/\I p=none/\G p=none:=by
 cases r with
 | val d=>cases m
 | own ds=>obtain ⟨p,xs,e1,e2,e3,e4,_⟩:=h;exact ⟨p,_,e1,e2,e3,e4⟩
 | bor ds=>obtain ⟨p,xs,e1,e2,e3,e4,_⟩:=h;exact ⟨p,_,e1,e2,e3,e4⟩
 | fro ds=>cases m
 | dic ds=>obtain ⟨p,xs,e1,e2,e3,e4,_⟩:=h;exact ⟨p,_,e1,e2,e3,e4⟩
structure Rep (K:PySem.W.Frag) (B:Nat->Option (Option V)) (G I H:Hp) (U:L2.St) (Γ:Gm):Prop where
 iH:Same I H
 gH:Same G H
 len:U.length=Γ.length
 slot:∀ (i:Nat) (r:R),Γ[i]?=some (some r)->∃ v,U[i]?=some (some v)/\SlotOk K G I H r v
 dist:∀ (i j:Nat) (r r':R) (v:V),Γ[i]?=some (some r)->Γ[j]?=some (some r')->r.ptr=true->r'.ptr=true->U[i]?=some (some v)->U[j]?=some (some v)->i=j
 bor:∀ (i:Nat) (ds:List D),Γ[i]?=some (some (.bor ds))->U[i]?=B i
structure Grow (G I I':Hp):Prop where
 up:Same I I'
 new:∀ b o,I' b=some o->I b=some o\/G b=none
theorem Grow.refl (G I:Hp):Grow G I I:=⟨Same.refl _,λ_ _ h=>.inl h⟩
theorem Grow.trans {G I I1 I2:Hp} (a:Grow G I I1) (b:Grow G I1 I2):Grow G I I2:=⟨a.up.trans b.up,λc o h=>by
 rcases b.new c o h with h1 | h1
 ·exact a.new c o h1
 ·exact .inr h1⟩
section
variable {K:PySem.W.Frag}{B:Nat->Option (Option V)}{G I I' H H':Hp}{U:L2.St}{Γ:Gm}
theorem Rep.ext (r:Rep K B G I H U Γ) (hI:Same I I') (hH:Same H H') (iH:Same I' H') (new:∀ b o,I' b=some o->I b=some o\/H b=none):Rep K B G I' H' U Γ where
 iH:=iH
 gH:=r.gH.trans hH
 len:=r.len
 slot:=λi q e=>by
  obtain ⟨v,e1,e2⟩:=r.slot i q e
  refine ⟨v,e1,?_⟩
  have mt:∀ ds,Mt K G I H ds v->Mt K G I' H' ds v:=λds h=>by
   obtain ⟨p,xs,h1,h2,h3,h4,h5⟩:=h
   refine ⟨p,xs,h1,hH _ _ h2,?_,h4,h5.mono hI⟩
   cases z:I' p with
   | none=>rfl
   | some o =>
    rcases new p o z with z1 | z1
    ·rw [h3] at z1;cases z1
    ·rw [h2] at z1;cases z1
  cases q with
  | val d=>exact Is.mono hI e2
  | dic ds =>
   obtain ⟨p,xs,h1,h2,h3,h4,h5⟩:=e2
   refine ⟨p,xs,h1,hH _ _ h2,?_,h4,h5.mono hI⟩
   cases z:I' p with
   | none=>rfl
   | some o =>
    rcases new p o z with z1 | z1
    ·rw [h3] at z1;cases z1
    ·rw [h2] at z1;cases z1
  | own ds=>exact mt ds e2
  | bor ds=>exact mt ds e2
  | fro ds=>obtain ⟨p,xs,f1,f2,f3,f4⟩:=e2;exact ⟨p,xs,f1,hI _ _ f2,f3,f4.mono hI⟩
 dist:=r.dist
 bor:=r.bor
theorem mG {H:Hp}{p:Addr} (h:H p=none) (o:HO):Same H (upd H p o):=λb u q=>by rw [ma (nu q h)];exact q
theorem vM {I H:Hp}{p:Addr} (h:Same I H) (o:HO):Same (upd I p o) (upd H p o):=λb u q=>by
 by_cases e:b=p
 ·subst e;rw [mq] at q ⊢;exact q
 ·rw [ma e] at q ⊢;exact h b u q
theorem Rep.iFree (r:Rep K B G I H U Γ){p:Addr} (h:H p=none):I p=none:=r.iH.free h
theorem Rep.gFree (r:Rep K B G I H U Γ){p:Addr} (h:H p=none):G p=none:=r.gH.free h
theorem Rep.alloc (r:Rep K B G I H U Γ){p:Addr} (h:H p=none) (o:HO):Rep K B G (upd I p o) (upd H p o) U Γ :=
 r.ext (mG (r.iFree h) o) (mG h o) (vM r.iH o) λb u q=>by
  by_cases e:b=p
  ·subst e;exact .inr h
  ·rw [ma e] at q;exact .inl q
theorem Rep.growAlloc (r:Rep K B G I H U Γ){p:Addr} (h:H p=none) (o:HO):Grow G I (upd I p o):=⟨mG (r.iFree h) o,λb u q=>by
 by_cases e:b=p
 ·subst e;exact .inr (r.gFree h)
 ·rw [ma e] at q;exact .inl q⟩
theorem Rep.fresh (r:Rep K B G I H U Γ){p:Addr} (h:H p=none) (o:HO):Rep K B G I (upd H p o) U Γ :=
 r.ext (Same.refl _) (mG h o) (r.iH.trans (mG h o)) λb u q=>.inl q
def Apart (U:L2.St) (Γ:Gm) (p:Addr):Prop:=∀ (j:Nat) (r:R),Γ[j]?=some (some r)->r.ptr=true->U[j]?≠some (some (.ref p))
theorem Rep.apart (r:Rep K B G I H U Γ){p:Addr} (h:H p=none):Apart U Γ p:=λj q e m z=>by
 obtain ⟨v,e1,e2⟩:=r.slot j q e
 obtain ⟨p',xs,h1,h2,_,_⟩:=e2.mt m
 rw [e1] at z
 subst h1
 cases z
 rw [h] at h2;cases h2
theorem Rep.freeze (r:Rep K B G I H U Γ){p:Addr}{xs:List V} (h:H p=some (.lst xs)) (hi:I p=none) (a:Apart U Γ p):Rep K B G (upd I p (.lst xs)) H U Γ where
 iH:=λb u q=>by
  by_cases e:b=p
  ·subst e;rw [mq] at q;cases q;exact h
  ·rw [ma e] at q;exact r.iH b u q
 gH:=r.gH
 len:=r.len
 slot:=λi q e=>by
  obtain ⟨v,e1,e2⟩:=r.slot i q e
  refine ⟨v,e1,?_⟩
  have up:=mG hi (.lst xs)
  have mt:q.ptr=true->∀ ds,Mt K G I H ds v->Mt K G (upd I p (.lst xs)) H ds v:=λm ds h=>by
   obtain ⟨p',aV,h1,h2,h3,h4,h5⟩:=h
   refine ⟨p',aV,h1,h2,?_,h4,h5.mono up⟩
   have ne:p'≠p:=λz=>a i q e m (by rw [e1,h1,z])
   rw [ma ne];exact h3
  cases q with
  | val d=>exact Is.mono up e2
  | dic ds =>
   obtain ⟨p',aV,h1,h2,h3,h4,h5⟩:=e2
   refine ⟨p',aV,h1,h2,?_,h4,h5.mono up⟩
   have ne:p'≠p:=λz=>a i _ e rfl (by rw [e1,h1,z])
   rw [ma ne];exact h3
  | own ds=>exact mt rfl ds e2
  | bor ds=>exact mt rfl ds e2
  | fro ds=>obtain ⟨p,xs,f1,f2,f3,f4⟩:=e2;exact ⟨p,xs,f1,up _ _ f2,f3,f4.mono up⟩
 dist:=r.dist
 bor:=r.bor
theorem growFreeze {G I:Hp}{p:Addr}{xs:List V} (hi:I p=none) (hg:G p=none):Grow G I (upd I p (.lst xs)):=⟨mG hi _,λb u q=>by
 by_cases e:b=p
 ·subst e;exact .inr hg
 ·rw [ma e] at q;exact .inl q⟩
theorem mz {α:Type}{l:List α}{i j:Nat}{a b:α} (h:(l.set i a)[j]?=some b):(j=i/\b=a/\i < l.length)\/(j≠i/\l[j]?=some b):=by
 by_cases e:j=i
 ·subst e
  by_cases hl:j < l.length
  ·rw [List.getElem?_set_self hl] at h;cases h;exact .inl ⟨rfl,rfl,hl⟩
  ·rw [List.getElem?_eq_none (by rw [length_set];omega)] at h;cases h
 ·rw [getElem?_set_ne (symm e)] at h;exact .inr ⟨e,h⟩
theorem Rep.forget (r:Rep K B G I H U Γ) (i:Nat):Rep K B G I H U (Γ.set i none) where
 iH:=r.iH
 gH:=r.gH
 len:=by rw [length_set];exact r.len
 slot:=λj q e=>by
  rcases mz e with ⟨_,z,_⟩ | ⟨_,z⟩
  ·cases z
  ·exact r.slot j q z
 dist:=λj k q q' v e e'=>by
  rcases mz e with ⟨_,z,_⟩ | ⟨_,z⟩
  ·cases z
  rcases mz e' with ⟨_,z',_⟩ | ⟨_,z'⟩
  ·cases z'
  exact r.dist j k q q' v z z'
 bor:=λj ds e=>by
  rcases mz e with ⟨_,z,_⟩ | ⟨_,z⟩
  ·cases z
  ·exact r.bor j ds z
theorem Rep.learn (r:Rep K B G I H U Γ){i:Nat}{q:R}{v:V} (hv:U[i]?=some (some v)) (ok:SlotOk K G I H q v) (ha:q.ptr=true->∀ p,v=.ref p->∀ (j:Nat) (r:R),j≠i->Γ[j]?=some (some r)->r.ptr=true->U[j]?≠some (some (.ref p)))
  (hb:∀ ds,q=.bor ds->U[i]?=B i):Rep K B G I H U (Γ.set i (some q)) where
 iH:=r.iH
 gH:=r.gH
 len:=by rw [length_set];exact r.len
 slot:=λj q' e=>by
  rcases mz e with ⟨rfl,z,_⟩ | ⟨_,z⟩
  ·cases z;exact ⟨v,hv,ok⟩
  ·exact r.slot j q' z
 dist:=λj k q1 q2 w e e' m1 m2 s1 s2=>by
  rcases mz e with ⟨rfl,z,_⟩ | ⟨n1,z⟩
  ·cases z
   rcases mz e' with ⟨rfl,z',_⟩ | ⟨n2,z'⟩
   ·rfl
   ·obtain ⟨p,xs,e1,_⟩:=ok.mt m1
    rw [hv] at s1;cases s1
    exact absurd (e1▸s2) (ha m1 p e1 k q2 n2 z' m2)
  ·rcases mz e' with ⟨rfl,z',_⟩ | ⟨n2,z'⟩
   ·cases z'
    obtain ⟨p,xs,e1,_⟩:=ok.mt m2
    rw [hv] at s2;cases s2
    exact absurd (e1▸s1) (ha m2 p e1 j q1 n1 z m1)
   ·exact r.dist j k q1 q2 w z z' m1 m2 s1 s2
 bor:=λj ds e=>by
  rcases mz e with ⟨rfl,z,_⟩ | ⟨_,z⟩
  ·cases z;exact hb ds rfl
  ·exact r.bor j ds z
theorem Rep.store (r:Rep K B G I H U Γ){i:Nat}{q:R}{v:V} (hi:i < U.length) (ok:SlotOk K G I H q v) (ha:q.ptr=true->∀ p,v=.ref p->Apart U Γ p) (hb:∀ ds,q≠.bor ds):Rep K B G I H (U.set i (some v)) (Γ.set i (some q)):=by
 have r1:Rep K B G I H (U.set i (some v)) (Γ.set i none):={
  iH:=r.iH,gH:=r.gH,len:=by rw [length_set,length_set];exact r.len
  slot:=λj q' e=>by
   rcases mz e with ⟨_,z,_⟩ | ⟨n,z⟩
   ·cases z
   ·rw [getElem?_set_ne (symm n)];exact r.slot j q' z
  dist:=λj k q1 q2 w e e' m1 m2 s1 s2=>by
   rcases mz e with ⟨_,z,_⟩ | ⟨n1,z⟩
   ·cases z
   rcases mz e' with ⟨_,z',_⟩ | ⟨n2,z'⟩
   ·cases z'
   rw [getElem?_set_ne (symm n1)] at s1
   rw [getElem?_set_ne (symm n2)] at s2
   exact r.dist j k q1 q2 w z z' m1 m2 s1 s2
  bor:=λj ds e=>by
   rcases mz e with ⟨_,z,_⟩ | ⟨n,z⟩
   ·cases z
   ·rw [getElem?_set_ne (symm n)];exact r.bor j ds z }
 have r2:=r1.learn (i:=i) (q:=q) (v:=v) (by rw [List.getElem?_set_self hi]) ok (λm p e j q' n z m' s=>by
  rcases mz z with ⟨_,z',_⟩ | ⟨_,z'⟩
  ·cases z'
  ·rw [getElem?_set_ne (symm n)] at s
   exact ha m p e j q' z' m' s) (λds e=>absurd e (hb ds))
 rw [set_set] at r2
 exact r2
theorem Rep.write (r:Rep K B G I H U Γ){i:Nat}{q q':R}{p:Addr}{xs ys:List V}{ds:List D} (hq:Γ[i]?=some (some q)) (hm:q.ptr=true) (hs:U[i]?=some (some (.ref p))) (h:H p=some (.lst xs)) (bR:q'=.own ds\/(q'=.bor ds/\∃ es,q=.bor es)) (hd:IsA K I ds ys) :
  Rep K B G I (upd H p (.lst ys)) U (Γ.set i (some q')):=by
 obtain ⟨v,e1,e2⟩:=r.slot i q hq
 obtain ⟨p',aV,h1,h2,h3,h4⟩:=e2.mt hm
 have hp:p'=p:=by rw [hs] at e1;subst h1;cases e1;rfl
 subst hp
 have cK:∀ (j:Nat) (r':R),j≠i->Γ[j]?=some (some r')->r'.ptr=true->U[j]?≠some (some (.ref p')):=λj r' n z m s=>n (r.dist j i r' q _ z hq m hm s hs)
 have sI:Same I (upd H p' (.lst ys)):=λb u z=>by
  have ne:b≠p':=λe=>by subst e;rw [h3] at z;cases z
  rw [ma ne];exact r.iH b u z
 have sG:Same G (upd H p' (.lst ys)):=λb u z=>by
  have ne:b≠p':=λe=>by subst e;rw [h4] at z;cases z
  rw [ma ne];exact r.gH b u z
 have r1:Rep K B G I (upd H p' (.lst ys)) U (Γ.set i none):={
  iH:=sI,gH:=sG,len:=by rw [length_set];exact r.len
  slot:=λj q1 e=>by
   rcases mz e with ⟨_,z,_⟩ | ⟨n,z⟩
   ·cases z
   obtain ⟨w,e3,e4⟩:=r.slot j q1 z
   refine ⟨w,e3,?_⟩
   have mt:q1.ptr=true->∀ ds,Mt K G I H ds w->Mt K G I (upd H p' (.lst ys)) ds w:=λm ds hh=>by
    obtain ⟨p2,fU,g1,g2,g3,g4,g5⟩:=hh
    refine ⟨p2,fU,g1,?_,g3,g4,g5⟩
    have ne:p2≠p':=λz2=>cK j q1 n z m (by rw [e3,g1,z2])
    rw [ma ne];exact g2
   cases q1 with
   | val d=>exact e4
   | dic ds =>
    obtain ⟨p2,fU,g1,g2,g3,g4,g5⟩:=e4
    refine ⟨p2,fU,g1,?_,g3,g4,g5⟩
    have ne:p2≠p':=λz2=>cK j _ n z rfl (by rw [e3,g1,z2])
    rw [ma ne];exact g2
   | own ds=>exact mt rfl ds e4
   | bor ds=>exact mt rfl ds e4
   | fro ds=>exact e4
  dist:=(r.forget i).dist
  bor:=(r.forget i).bor }
 have iA:Mt K G I (upd H p' (.lst ys)) ds (.ref p'):=⟨p',ys,rfl,mq,h3,h4,hd⟩
 have r2:=r1.learn (i:=i) (q:=q') (v:=.ref p') hs (by rcases bR with rfl | ⟨rfl,_⟩<;>exact iA) (λm p2 e j r' n z m' s=>by
  cases e
  rcases mz z with ⟨_,z',_⟩ | ⟨_,z'⟩
  ·cases z'
  ·exact cK j r' n z' m' s) (λes e=>by
  rcases bR with rfl | ⟨rfl,df,rfl⟩
  ·cases e
  ·exact r.bor i df hq)
 rw [set_set] at r2
 exact r2
end
end DL
namespace DL
open PySem PySem.Spec PyProof.Rows L2
noncomputable abbrev M (α:Type):=Gm->Option (α×Gm)
noncomputable def ret {α:Type} (a:α):M α:=λΓ=>some (a,Γ)
noncomputable def bnd {α Y:Type} (m:M α) (f:α->M Y):M Y:=λΓ=>match m Γ with
 | some (a,Γ1)=>f a Γ1
 | none=>none
noncomputable def lft {α:Type} (o:Option α):M α:=λΓ=>match o with
 | some a=>some (a,Γ)
 | none=>none
theorem i' {α Y:Type}{m:M α}{f:α->M Y}{Γ:Gm}{b:Y}{ac:Gm} (h:bnd m f Γ=some (b,ac)):∃ a Γ1,m Γ=some (a,Γ1)/\f a Γ1=some (b,ac):=by
 unfold bnd at h
 cases e:m Γ with
 | none=>rw [e] at h;cases h
 | some q=>obtain ⟨a,Γ1⟩:=q;rw [e] at h;exact ⟨a,Γ1,rfl,h⟩
theorem mr {α:Type}{o:Option α}{Γ ac:Gm}{a:α} (h:lft o Γ=some (a,ac)):o=some a/\ac=Γ:=by
 unfold lft at h
 cases o with
 | none=>cases h
 | some b=>cases h;exact ⟨rfl,rfl⟩
section
variable (K:PySem.W.Frag) (B:Nat->Option (Option V))
def KD (G I:Hp) (U:L2.St) (ac:Gm) (d:D) (Q:VK):Prop:=∀ v H' I',Rep K B G I' H' U ac->Grow G I I'->Is K I' d v->Q v H'
def KO (G I:Hp) (U:L2.St) (ac:Gm) (ds:List D) (Q:VK):Prop:=∀ p xs H' I',Rep K B G I' H' U ac->Grow G I I'->H' p=some (.lst xs)->I' p=none->G p=none->Apart U ac p->IsA K I' ds xs->Q (.ref p) H'
def KT (G I:Hp) (U:L2.St) (ac:Gm) (b:Bool) (Q:Bool->Hp->Prop):Prop:=∀ H' I',Rep K B G I' H' U ac->Grow G I I'->Q b H'
def KA (G I:Hp) (U:L2.St) (ac:Gm) (ds:List D) (Q:List V->Hp->Prop):Prop:=∀ vs H' I',Rep K B G I' H' U ac->Grow G I I'->IsA K I' ds vs->Q vs H'
noncomputable def tD (g:M D):TE:=λU H Q=>∃ G I Γ d ac,Rep K B G I H U Γ/\g Γ=some (d,ac)/\KD K B G I U ac d Q
noncomputable def tO (g:M (List D)):TE:=λU H Q=>∃ G I Γ ds ac,Rep K B G I H U Γ/\g Γ=some (ds,ac)/\KO K B G I U ac ds Q
noncomputable def tTD (g:M Bool):TT:=λU H Q=>∃ G I Γ b ac,Rep K B G I H U Γ/\g Γ=some (b,ac)/\KT K B G I U ac b Q
noncomputable def tAD (g:M (List D)):TA:=λU H Q=>∃ G I Γ ds ac,Rep K B G I H U Γ/\g Γ=some (ds,ac)/\KA K B G I U ac ds Q
end
abbrev BB:=Nat->Option (Option V)
def ED (X:Cx) (B:BB) (e:Expr) (g:M D):Prop:=PE X e (tD X.K B g)
def EO (X:Cx) (B:BB) (e:Expr) (g:M (List D)):Prop:=PE X e (tO X.K B g)
def TD (X:Cx) (B:BB) (e:Expr) (g:M Bool):Prop:=PT X e (tTD X.K B g)
def TW (X:Cx) (B:BB) (e:Expr) (g:M Bool):Prop:=PW X e (tTD X.K B g)
def AD (X:Cx) (B:BB) (es:List Expr) (g:M (List D)):Prop:=PA X es (tAD X.K B g)
section
variable {X:Cx}{e:Expr}
theorem PE.imp {t t':TE} (h:PE X e t) (f:∀ U H Q,t' U H Q->t U H Q):PE X e t':=λaa s U H Q I q=>h aa s U H Q I (f U H Q q)
theorem PT.imp {t t':TT} (h:PT X e t) (f:∀ U H Q,t' U H Q->t U H Q):PT X e t':=λaa s U H Q I q=>h aa s U H Q I (f U H Q q)
theorem PW.imp {t t':TT} (h:PW X e t) (f:∀ U H Q,t' U H Q->t U H Q):PW X e t':=λwh aa s U H Q I q=>h wh aa s U H Q I (f U H Q q)
theorem PA.imp {es:List Expr}{t t':TA} (h:PA X es t) (f:∀ U H Q,t' U H Q->t U H Q):PA X es t':=λpos aa s U H Q I q=>h pos aa s U H Q I (f U H Q q)
end
section
variable {K:PySem.W.Frag}{B:BB}{G I I1 I2 H H1:Hp}{U:L2.St}{Γ Γ1 ac:Gm}{d:D}{ds:List D}{Q:VK}
theorem KD.now (k:KD K B G I U Γ d Q) (r:Rep K B G I H U Γ){v:V} (h:Is K I d v):Q v H:=k v H I r (Grow.refl _ _) h
theorem KD.after (k:KD K B G I U ac d Q) (g:Grow G I I1):KD K B G I1 U ac d Q:=λv H' I' r g' h=>k v H' I' r (g.trans g') h
theorem KO.after (k:KO K B G I U ac ds Q) (g:Grow G I I1):KO K B G I1 U ac ds Q:=λp xs H' I' r g'=>k p xs H' I' r (g.trans g')
theorem KT.after {b:Bool}{Q:Bool->Hp->Prop} (k:KT K B G I U ac b Q) (g:Grow G I I1):KT K B G I1 U ac b Q:=λH' I' r g'=>k H' I' r (g.trans g')
theorem KD.tup (k:KD K B G I U Γ (.tup ds) Q) (r:Rep K B G I H U Γ){p:Addr}{xs:List V} (hp:H p=none) (h:IsA K I ds xs):Q (.ref p) (upd H p (.tup xs)) :=
 k _ _ _ (r.alloc hp _) (r.growAlloc hp _) (Is.tup (SqT.of mq) (h.mono (mG (r.iFree hp) _)))
theorem KO.new (k:KO K B G I U Γ ds Q) (r:Rep K B G I H U Γ){p:Addr}{xs:List V} (hp:H p=none) (h:IsA K I ds xs):Q (.ref p) (upd H p (.lst xs)) :=
 k p xs _ I (r.fresh hp _) (Grow.refl _ _) mq (r.iFree hp) (r.gFree hp) (r.apart hp) h
end
section
variable {X:Cx}{B:BB}{a b c e:Expr}{es:List Expr}{pos:Pos}{ga gb gc:M D}
noncomputable def frz (g:M (List D)):M D:=bnd g λds=>ret (.lst ds)
theorem mw {g:M (List D)} (h:EO X B e g):ED X B e (frz g):=PE.imp h λU H Q q=>by
 obtain ⟨G,I,Γ,d,ac,r,e1,k⟩:=q
 obtain ⟨ds,Γ1,e2,e3⟩:=i' e1
 cases e3
 refine ⟨G,I,Γ,ds,_,r,e2,λp xs H' I' r' g h1 h2 h3 h4 h5=>?_⟩
 exact k _ _ _ (r'.freeze h1 h2 h4) (g.trans (growFreeze h2 h3)) (Is.lst (RdK.of mq) (h5.mono (mG h2 _)))
noncomputable def nm (i:Nat):M D:=λΓ=>match Γ[i]? with
 | some (some (.val d))=>some (d,Γ)
 | some (some (.own ds))=>some (.lst ds,Γ.set i (some (.val (.lst ds))))
 | some (some (.fro ds))=>some (.lst ds,Γ)
 | _=>none
theorem sP {i:Nat}{x:Str} (h:PE X (.Name x pos) (tVar i)):ED X B (.Name x pos) (nm i):=PE.imp h λU H Q q=>by
 obtain ⟨G,I,Γ,d,ac,r,e1,k⟩:=q
 unfold nm at e1
 cases e:Γ[i]? with
 | none=>rw [e] at e1;cases e1
 | some o =>
  cases o with
  | none=>rw [e] at e1;cases e1
  | some q =>
   obtain ⟨v,h1,h2⟩:=r.slot i q e
   cases q with
   | val d'=>rw [e] at e1;cases e1;exact ⟨v,h1,k.now r h2⟩
   | bor ds=>rw [e] at e1;cases e1
   | dic ds=>rw [e] at e1;cases e1
   | fro ds=>rw [e] at e1;cases e1;obtain ⟨p,xs,rfl,f1,f2,f3⟩:=h2;exact ⟨_,h1,k.now r (Is.lst (RdK.of f1) f3)⟩
   | own ds =>
    rw [e] at e1;cases e1
    obtain ⟨p,xs,rfl,g1,g2,g3,g4⟩:=h2
    refine ⟨_,h1,k _ _ (upd I p (.lst xs)) ?_ (growFreeze g2 g3) (Is.lst (RdK.of mq) (g4.mono (mG g2 _)))⟩
    have ap:Apart U (Γ.set i none) p:=λj q' z m s=>by
     rcases mz z with ⟨_,z',_⟩ | ⟨n,z'⟩
     ·cases z'
     ·exact n (r.dist j i q' (.own ds) _ z' e m rfl s h1)
    have r1:=(r.forget i).freeze g1 g2 ap
    have r2:=r1.learn (i:=i) (q:=.val (.lst ds)) h1 (Is.lst (RdK.of mq) (g4.mono (mG g2 _))) (λm=>nomatch m) (λ_ z=>nomatch z)
    rw [set_set] at r2
    exact r2
theorem ed_c {d:D}{v:V} (h:PE X e (tC v)) (hd:∀ I,Is X.K I d v):ED X B e (ret d):=PE.imp h λU H Q q=>by
 obtain ⟨G,I,Γ,d',ac,r,e1,k⟩:=q
 cases e1
 exact k.now r (hd I)
theorem l9 {i j}:ED X B (.Constant (.int i) j pos) (ret (.int i)):=ed_c xo λ_=>Is.int i
theorem pz {b j}:ED X B (.Constant (.bool b) j pos) (ret (.bl b)):=ed_c wY λ_=>Is.bl b
theorem oj {j}:ED X B (.Constant .none j pos) (ret .non):=ed_c zI λ_=>Is.non
theorem mM {x j}:ED X B (.Constant (.str x) j pos) (ret (.str x)):=ed_c zP λ_=>Is.str x
noncomputable def nilA:M (List D):=ret []
noncomputable def consA (g:M D) (t:M (List D)):M (List D):=bnd g λd=>bnd t λds=>ret (d::ds)
theorem io:AD X B [] nilA:=PA.imp nW λU H Q q=>by
 obtain ⟨G,I,Γ,d,ac,r,e1,k⟩:=q
 cases e1
 exact k _ _ _ r (Grow.refl _ _) IsA.nil
theorem xB {g:M D}{t:M (List D)} (ha:ED X B e g) (hr:AD X B es t) (hs:starEach (e::es) X.env=(false,eval e X.env)::starEach es X.env:=by rfl):AD X B (e::es) (consA g t) :=
 PA.imp (mX ha hr hs) λU H Q q=>by
  obtain ⟨G,I,Γ,d,ac,r,e1,k⟩:=q
  obtain ⟨d1,Γ1,e2,e3⟩:=i' e1
  obtain ⟨d2,ai,e4,e5⟩:=i' e3
  cases e5
  exact ⟨G,I,Γ,d1,Γ1,r,e2,λv H1 I1 r1 g1 h1=>⟨G,I1,Γ1,d2,_,r1,e4,λvs H2 I2 r2 g2 h2=>k _ _ _ r2 (g1.trans g2) (IsA.cons (h1.mono g2.up) h2)⟩⟩
noncomputable def lim:Nat:=1000000
theorem nS {n:Nat} (h:n<=lim):n<=sizeLine:=le_trans h (by rw [sizeLine_eq];decide)
noncomputable def tupA (t:M (List D)):M D:=bnd t λds=>lft (if ds.length<=lim then some (.tup ds) else none)
noncomputable def lstA (t:M (List D)):M (List D):=bnd t λds=>lft (if ds.length<=lim then some ds else none)
theorem my {α:Type}{c:Prop} [Decidable c]{a b:α} (h:(if c then some a else none)=some b):c/\b=a:=by
 by_cases hc:c
 ·rw [if_pos hc] at h;exact ⟨hc,(Option.some.inj h).symm⟩
 ·rw [if_neg hc] at h;cases h
theorem pR {x1}{t:M (List D)} (h:AD X B es t):ED X B (.Tuple es x1 pos) (tupA t):=PE.imp (wS h) λU H Q q=>by
 obtain ⟨G,I,Γ,d,ac,r,e1,k⟩:=q
 obtain ⟨d1,Γ1,e2,e3⟩:=i' e1
 obtain ⟨e4,rfl⟩:=mr e3
 obtain ⟨hl,rfl⟩:=my e4
 refine ⟨G,I,Γ,d1,_,r,e2,λvs H1 I1 r1 g1 h1=>⟨?_,λp hp=>(k.after g1).tup r1 hp h1⟩⟩
 rw [← h1.length];exact nS hl
theorem mJ {t:M (List D)} (h:AD X B es t):EO X B (.List es pos) (lstA t):=PE.imp (Az h) λU H Q q=>by
 obtain ⟨G,I,Γ,d,ac,r,e1,k⟩:=q
 obtain ⟨d1,Γ1,e2,e3⟩:=i' e1
 obtain ⟨e4,rfl⟩:=mr e3
 obtain ⟨hl,rfl⟩:=my e4
 refine ⟨G,I,Γ,_,_,r,e2,λvs H1 I1 r1 g1 h1=>⟨?_,λp hp=>(k.after g1).new r1 hp h1⟩⟩
 rw [← h1.length];exact nS hl
def OpD (K:PySem.W.Frag) (r:R2) (F:D->D->Option D):Prop:=∀ a b d,F a b=some d->∀ (B:BB) (G I H:Hp) (U:L2.St) (Γ:Gm) (x y:V) (Q:VK),Rep K B G I H U Γ->Is K I a x->Is K I b y->KD K B G I U Γ d Q->r x y H Q
def OpO (K:PySem.W.Frag) (r:R2) (F:D->D->Option (List D)):Prop:=∀ a b d,F a b=some d->∀ (B:BB) (G I H:Hp) (U:L2.St) (Γ:Gm) (x y:V) (Q:VK),Rep K B G I H U Γ->Is K I a x->Is K I b y->KO K B G I U Γ d Q->r x y H Q
def CallD (K:PySem.W.Frag) (r:List V->Hp->VK->Prop) (F:List D->Option D):Prop:=∀ ds d,F ds=some d->∀ (B:BB) (G I H:Hp) (U:L2.St) (Γ:Gm) (xs:List V) (Q:VK),Rep K B G I H U Γ->IsA K I ds xs->KD K B G I U Γ d Q->r xs H Q
def CallO (K:PySem.W.Frag) (r:List V->Hp->VK->Prop) (F:List D->Option (List D)):Prop:=∀ ds d,F ds=some d->∀ (B:BB) (G I H:Hp) (U:L2.St) (Γ:Gm) (xs:List V) (Q:VK),Rep K B G I H U Γ->IsA K I ds xs->KO K B G I U Γ d Q->r xs H Q
noncomputable def op2 {α:Type} (F:D->D->Option α) (ga gb:M D):M α:=bnd ga λx=>bnd gb λy=>lft (F x y)
noncomputable def fn1 {α:Type} (F:List D->Option α) (t:M (List D)):M α:=bnd t λds=>lft (F ds)
theorem t_op {r:R2}{F:D->D->Option D}{K:PySem.W.Frag} (h:OpD K r F):∀ U H Q,tD K B (op2 F ga gb) U H Q->tOp r (tD K B ga) (tD K B gb) U H Q:=λU H Q q=>by
 obtain ⟨G,I,Γ,d,ac,r,e1,k⟩:=q
 obtain ⟨d1,Γ1,e2,e3⟩:=i' e1
 obtain ⟨d2,ai,e4,e5⟩:=i' e3
 obtain ⟨e6,rfl⟩:=mr e5
 exact ⟨G,I,Γ,d1,Γ1,r,e2,λv H1 I1 r1 g1 h1=>⟨G,I1,Γ1,d2,_,r1,e4,λw H2 I2 r2 g2 h2=>h _ _ _ e6 B G I2 H2 U _ v w Q r2 (h1.mono g2.up) h2 (k.after (g1.trans g2))⟩⟩
theorem wk {r:R2}{F:D->D->Option (List D)}{K:PySem.W.Frag} (h:OpO K r F):∀ U H Q,tO K B (op2 F ga gb) U H Q->tOp r (tD K B ga) (tD K B gb) U H Q:=λU H Q q=>by
 obtain ⟨G,I,Γ,d,ac,r,e1,k⟩:=q
 obtain ⟨d1,Γ1,e2,e3⟩:=i' e1
 obtain ⟨d2,ai,e4,e5⟩:=i' e3
 obtain ⟨e6,rfl⟩:=mr e5
 exact ⟨G,I,Γ,d1,Γ1,r,e2,λv H1 I1 r1 g1 h1=>⟨G,I1,Γ1,d2,_,r1,e4,λw H2 I2 r2 g2 h2=>h _ _ _ e6 B G I2 H2 U _ v w Q r2 (h1.mono g2.up) h2 (k.after (g1.trans g2))⟩⟩
theorem ol {op:Operator}{r:R2}{F:D->D->Option D} (ho:OpR X (binaryOp op) r) (h:OpD X.K r F) (ha:ED X B a ga) (hb:ED X B b gb):ED X B (.BinOp a op b pos) (op2 F ga gb):=PE.imp (vd ho ha hb) (t_op h)
theorem xb {op:Operator}{r:R2}{F:D->D->Option (List D)} (ho:OpR X (binaryOp op) r) (h:OpO X.K r F) (ha:ED X B a ga) (hb:ED X B b gb):EO X B (.BinOp a op b pos) (op2 F ga gb):=PE.imp (vd ho ha hb) (wk h)
theorem sY {op:CmpOp}{r:R2}{F:D->D->Option D} (ho:OpR X (compareOp op) r) (h:OpD X.K r F) (ha:ED X B a ga) (hb:ED X B b gb) (hm:behindInMarks op b=false:=by first | exact nomark _ | rfl):ED X B (.Compare a [op] [b] pos) (op2 F ga gb):=PE.imp (xT ho ha hb hm) (t_op h)
theorem yR {r:R2}{F:D->D->Option D} (ho:IxR X r) (h:OpD X.K r F) (ha:ED X B a ga) (hb:ED X B b gb) (hs:PlainIx b:=by exact λ_ _=>rfl):ED X B (.Subscript a b pos) (op2 F ga gb):=PE.imp (tu ho ha hb hs) (t_op h)
noncomputable def asB (d:D):Option Bool:=match d with
 | .bl b=>some b
 | _=>none
theorem tM {d:D}{b:Bool} (h:asB d=some b):d=.bl b:=by
 cases d<;>simp [asB] at h
 rw [h]
noncomputable def tst (g:M D):M Bool:=bnd g λd=>lft (asB d)
theorem su {K:PySem.W.Frag}{g:M D}{t:TE} (ht:∀ U H Q,tD K B g U H Q->t U H Q):∀ U H Q,tTD K B (tst g) U H Q->tTest t U H Q:=λU H Q q=>by
 obtain ⟨G,I,Γ,d,ac,r,e1,k⟩:=q
 obtain ⟨d1,Γ1,e2,e3⟩:=i' e1
 obtain ⟨e4,rfl⟩:=mr e3
 have:=tM e4
 subst this
 exact ht _ _ _ ⟨G,I,Γ,_,_,r,e2,λv H1 I1 r1 g1 h1=>⟨d,mP h1,k _ _ r1 g1⟩⟩
theorem nL {op:CmpOp}{r:R2}{F:D->D->Option D} (ho:OpR X (compareOp op) r) (h:OpD X.K r F) (ha:ED X B a ga) (hb:ED X B b gb) (hm:behindInMarks op b=false:=by first | exact nomark _ | rfl):TD X B (.Compare a [op] [b] pos) (tst (op2 F ga gb)):=PT.imp (Bs ho ha hb hm) (su (t_op h))
theorem pQ (ha:ED X B a ga) (he:∀ aY,isTrue a X.env aY=(do let v ← aY;standAt a.pos;holding [v] (truthy v)):=by intro _;rfl):TD X B a (tst ga):=PT.imp (zQ ha he) (su λ_ _ _ z=>z)
noncomputable def chn (F F':D->D->Option D) (ga gb gc:M D):M D:=bnd ga λx=>bnd gb λy=>bnd (lft (F x y)) λz=>bnd (lft (asB z)) λk=>if k then bnd gc λw=>lft (F' y w) else ret (.bl false)
theorem xh {r r':R2}{F F':D->D->Option D}{K:PySem.W.Frag} (h:OpD K r F) (h':OpD K r' F'):∀ U H Q,tD K B (chn F F' ga gb gc) U H Q->tChain r r' (tD K B ga) (tD K B gb) (tD K B gc) U H Q:=λU H Q q=>by
 obtain ⟨G,I,Γ,d,ac,r,e1,k⟩:=q
 obtain ⟨d1,Γ1,e2,e3⟩:=i' e1
 obtain ⟨d2,ai,e4,e5⟩:=i' e3
 obtain ⟨d3,aF,e6,e7⟩:=i' e5
 obtain ⟨e8,rfl⟩:=mr e6
 obtain ⟨k1,aI,e9,f1⟩:=i' e7
 obtain ⟨f2,rfl⟩:=mr e9
 have:=tM f2
 subst this
 refine ⟨G,I,Γ,d1,Γ1,r,e2,λv H1 I1 r1 g1 h1=>⟨G,I1,Γ1,d2,aI,r1,e4,λw H2 I2 r2 g2 h2=>h _ _ _ e8 B G I2 H2 U aI v w _ r2 (h1.mono g2.up) h2 λu H3 I3 r3 g3 h3=>⟨k1,mP h3,?_⟩⟩⟩
 cases k1 with
 | false=>cases f1;exact iteF (k _ _ _ r3 (g1.trans (g2.trans g3)) (Is.bl false))
 | true =>
  obtain ⟨d4,dR,f3,f4⟩:=i' f1
  obtain ⟨f5,rfl⟩:=mr f4
  exact iteT ⟨G,I3,aI,d4,_,r3,f3,λz H4 I4 r4 g4 h4=>h' _ _ _ f5 B G I4 H4 U _ w z Q r4 (h2.mono (g3.trans g4).up) h4 (k.after (g1.trans (g2.trans (g3.trans g4))))⟩
theorem y0 {op cG:CmpOp}{r r':R2}{F F':D->D->Option D} (ho:OpR X (compareOp op) r) (h:OpD X.K r F) (bL:OpR X (compareOp cG) r') (h':OpD X.K r' F') (ha:ED X B a ga) (hb:ED X B b gb) (hc:ED X B c gc)
  (hm:lastMarks [op,cG] [b,c]=false:=by with_unfolding_all rfl):TD X B (.Compare a [op,cG] [b,c] pos) (tst (chn F F' ga gb gc)):=PT.imp (yX ho bL ha hb hc hm) (su (xh h h'))
noncomputable def andT (a b:M Bool):M Bool:=bnd a λk=>if k then b else ret false
noncomputable def orT (a b:M Bool):M Bool:=bnd a λk=>if k then ret true else b
noncomputable def notT (a:M Bool):M Bool:=bnd a λk=>ret (!k)
noncomputable def ifV (c:M Bool) (a b:M D):M D:=bnd c λk=>if k then a else b
variable {ta tb:M Bool}{aw:List Expr}
theorem Bc (ha:TD X B a ta):TW X B (.BoolOp .And [a] pos) ta:=AR ha
theorem sW (ha:TD X B a ta):TW X B (.BoolOp .Or [a] pos) ta:=xR ha
theorem w8 (ha:TD X B a ta) (hb:TW X B (.BoolOp .And (b::aw) pos) tb):TW X B (.BoolOp .And (a::b::aw) pos) (andT ta tb):=PW.imp (Bg ha hb) λU H Q q=>by
 obtain ⟨G,I,Γ,d,ac,r,e1,k⟩:=q
 obtain ⟨d1,Γ1,e2,e3⟩:=i' e1
 refine ⟨G,I,Γ,d1,Γ1,r,e2,λH1 I1 r1 g1=>?_⟩
 cases d1 with
 | true=>exact iteT ⟨G,I1,Γ1,d,ac,r1,e3,k.after g1⟩
 | false=>cases e3;exact iteF (k _ _ r1 g1)
theorem uW (ha:TD X B a ta) (hb:TW X B (.BoolOp .Or (b::aw) pos) tb):TW X B (.BoolOp .Or (a::b::aw) pos) (orT ta tb):=PW.imp (zo ha hb) λU H Q q=>by
 obtain ⟨G,I,Γ,d,ac,r,e1,k⟩:=q
 obtain ⟨d1,Γ1,e2,e3⟩:=i' e1
 refine ⟨G,I,Γ,d1,Γ1,r,e2,λH1 I1 r1 g1=>?_⟩
 cases d1 with
 | false=>exact iteF ⟨G,I1,Γ1,d,ac,r1,e3,k.after g1⟩
 | true=>cases e3;exact iteT (k _ _ r1 g1)
theorem TW.td (h:TW X B e ta):TD X B e ta:=h _
theorem oz (ha:TD X B a ta):TD X B (.UnaryOp .Not a pos) (notT ta):=PT.imp (BW ha) λU H Q q=>by
 obtain ⟨G,I,Γ,d,ac,r,e1,k⟩:=q
 obtain ⟨d1,Γ1,e2,e3⟩:=i' e1
 cases e3
 exact ⟨G,I,Γ,d1,_,r,e2,λH1 I1 r1 g1=>k _ _ r1 g1⟩
theorem sy (hc:TD X B c ta) (ha:ED X B a ga) (hb:ED X B b gb):ED X B (.IfExp c a b pos) (ifV ta ga gb):=PE.imp (yA hc ha hb) λU H Q q=>by
 obtain ⟨G,I,Γ,d,ac,r,e1,k⟩:=q
 obtain ⟨d1,Γ1,e2,e3⟩:=i' e1
 refine ⟨G,I,Γ,d1,Γ1,r,e2,λH1 I1 r1 g1=>?_⟩
 cases d1 with
 | true=>exact iteT ⟨G,I1,Γ1,d,ac,r1,e3,k.after g1⟩
 | false=>exact iteF ⟨G,I1,Γ1,d,ac,r1,e3,k.after g1⟩
variable {x:Str}{p:Pos}{id T:String}{r:List V->Hp->VK->Prop}{t:M (List D)}
theorem t_fn {F:List D->Option D}{K:PySem.W.Frag} (h:CallD K r F):∀ U H Q,tD K B (fn1 F t) U H Q->tCB r (tAD K B t) U H Q:=λU H Q q=>by
 obtain ⟨G,I,Γ,d,ac,r,e1,k⟩:=q
 obtain ⟨d1,Γ1,e2,e3⟩:=i' e1
 obtain ⟨e4,rfl⟩:=mr e3
 exact ⟨G,I,Γ,d1,_,r,e2,λvs H1 I1 r1 g1 h1=>h _ _ e4 B G I1 H1 U _ vs Q r1 h1 (k.after g1)⟩
theorem vS {F:List D->Option (List D)}{K:PySem.W.Frag} (h:CallO K r F):∀ U H Q,tO K B (fn1 F t) U H Q->tCB r (tAD K B t) U H Q:=λU H Q q=>by
 obtain ⟨G,I,Γ,d,ac,r,e1,k⟩:=q
 obtain ⟨d1,Γ1,e2,e3⟩:=i' e1
 obtain ⟨e4,rfl⟩:=mr e3
 exact ⟨G,I,Γ,d1,_,r,e2,λvs H1 I1 r1 g1 h1=>h _ _ e4 B G I1 H1 U _ vs Q r1 h1 (k.after g1)⟩
theorem pG {F:List D->Option D} (hc:CallR X (.builtin id) r) (h:CallD X.K r F) (hg:Gl X x) (hm:X.mg x=none) (hv:bootBuiltins x=some (.builtin id)) (ha:AD X B (e::es) t) (hn:x ≠ "__name__":=by decide) (aM:(x == ("__debug__":Str))=false:=by decide)
  (he:starEach (e::es) X.env=(false,eval e X.env)::starEach es X.env:=by rfl) (az:(backTo pos (starEach es X.env)).any (·.1)=false:=by rfl):ED X B (.Call (.Name x p) (e::es) [] pos) (fn1 F t):=PE.imp (p9 hc hg hm hv ha hn aM he az) (t_fn h)
theorem BD {F:List D->Option (List D)} (hc:CallR X (.builtin id) r) (h:CallO X.K r F) (hg:Gl X x) (hm:X.mg x=none) (hv:bootBuiltins x=some (.builtin id)) (ha:AD X B (e::es) t) (hn:x ≠ "__name__":=by decide) (aM:(x == ("__debug__":Str))=false:=by decide)
  (he:starEach (e::es) X.env=(false,eval e X.env)::starEach es X.env:=by rfl) (az:(backTo pos (starEach es X.env)).any (·.1)=false:=by rfl):EO X B (.Call (.Name x p) (e::es) [] pos) (fn1 F t):=PE.imp (p9 hc hg hm hv ha hn aM he az) (vS h)
theorem uM {F:List D->Option D} (hc:CallR X (.type T) r) (h:CallD X.K r F) (hg:Gl X x) (hm:X.mg x=none) (hv:bootBuiltins x=some (.type T)) (ha:AD X B (e::es) t) (hn:x ≠ "__name__":=by decide) (aM:(x == ("__debug__":Str))=false:=by decide)
  (he:starEach (e::es) X.env=(false,eval e X.env)::starEach es X.env:=by rfl) (az:(backTo pos (starEach es X.env)).any (·.1)=false:=by rfl):ED X B (.Call (.Name x p) (e::es) [] pos) (fn1 F t):=PE.imp (vf hc hg hm hv ha hn aM he az) (t_fn h)
theorem wg {F:List D->Option (List D)} (hc:CallR X (.type T) r) (h:CallO X.K r F) (hg:Gl X x) (hm:X.mg x=none) (hv:bootBuiltins x=some (.type T)) (ha:AD X B (e::es) t) (hn:x ≠ "__name__":=by decide) (aM:(x == ("__debug__":Str))=false:=by decide)
  (he:starEach (e::es) X.env=(false,eval e X.env)::starEach es X.env:=by rfl) (az:(backTo pos (starEach es X.env)).any (·.1)=false:=by rfl):EO X B (.Call (.Name x p) (e::es) [] pos) (fn1 F t):=PE.imp (vf hc hg hm hv ha hn aM he az) (vS h)
end
inductive Fl where
 | nx | rt (r:R) | bk | ct
def ResOk (K:PySem.W.Frag) (G I H:Hp) (U:L2.St) (Γ:Gm):R->V->Prop
 | .val d,v=>Is K I d v
 | .own ds,v=>∃ p xs,v=.ref p/\H p=some (.lst xs)/\I p=none/\G p=none/\Apart U Γ p/\IsA K I ds xs
 | .bor _,_=>False
 | .fro ds,v=>∃ p xs,v=.ref p/\I p=some (.lst xs)/\G p=none/\IsA K I ds xs
 | .dic aC,v=>∃ p xs,v=.ref p/\H p=some (.dK xs)/\I p=none/\G p=none/\Apart U Γ p/\IsK K I aC xs
def EndAt (K:PySem.W.Frag) (G I H:Hp) (U:L2.St) (Γ:Gm) (E:Ends):Fl->Prop
 | .nx=>E.nx U H
 | .bk=>E.bk U H
 | .ct=>E.ct U H
 | .rt r=>∀ v,ResOk K G I H U Γ r v->E.rt v H
section
variable (K:PySem.W.Frag) (B:BB)
def KS (G I:Hp) (ac:Gm) (f:Fl) (E:Ends):Prop:=∀ af H' I',Rep K B G I' H' af ac->Grow G I I'->EndAt K G I' H' af ac E f
noncomputable def tS (g:M Fl):TS:=λE U H=>∃ G I Γ f ac,Rep K B G I H U Γ/\g Γ=some (f,ac)/\KS K B G I ac f E
def KG (m:Nat) (U:L2.St) (G I:Hp) (ac:Gm) (Q:L2.St->Hp->Prop):Prop:=∀ af H' I',Rep K B G I' H' af ac->Grow G I I'->af.drop m=U.drop m->Q af H'
noncomputable def tGD (m:Nat) (f:D->M Unit):TG:=λv U H Q=>∃ G I Γ d ac,Rep K B G I H U Γ/\Is K I d v/\f d Γ=some ((),ac)/\KG K B m U G I ac Q
noncomputable def tGs (m:Nat) (f:List D->M Unit):TGs:=λvs U H Q=>∃ G I Γ ds ac,Rep K B G I H U Γ/\IsA K I ds vs/\f ds Γ=some ((),ac)/\KG K B m U G I ac Q
end
def SD (X:Cx) (B:BB) (st:Stmt) (g:M Fl):Prop:=PS X st (tS X.K B g)
def SDs (X:Cx) (B:BB) (st:List Stmt) (g:M Fl):Prop:=PSs X st (tS X.K B g)
def GD (X:Cx) (B:BB) (m:Nat) (tg:Expr) (f:D->M Unit):Prop:=PG X tg (tGD X.K B m f)
def GDs (X:Cx) (B:BB) (m:Nat) (eP:List Expr) (f:List D->M Unit):Prop:=PGs X eP (tGs X.K B m f)
section
variable {X:Cx}
theorem PS.imp {st:Stmt}{t t':TS} (h:PS X st t) (f:∀ E U H,t' E U H->t E U H):PS X st t':=λaa s U H E I q=>h aa s U H E I (f E U H q)
theorem PSs.imp {st:List Stmt}{t t':TS} (h:PSs X st t) (f:∀ E U H,t' E U H->t E U H):PSs X st t':=λaa s U H E I q=>h aa s U H E I (f E U H q)
theorem PG.imp {tg:Expr}{t t':TG} (h:PG X tg t) (f:∀ v U H Q,t' v U H Q->t v U H Q):PG X tg t':=λaa s U H v u Q I r q=>h aa s U H v u Q I r (f v U H Q q)
theorem PGs.imp {eP:List Expr}{t t':TGs} (h:PGs X eP t) (f:∀ v U H Q,t' v U H Q->t v U H Q):PGs X eP t':=λaa s U H v u Q I r q=>h aa s U H v u Q I r (f v U H Q q)
theorem PI.imp {tg iter:Expr}{t t':TI} (h:PI X tg iter t) (f:∀ U H Q,t' U H Q->t U H Q):PI X tg iter t':=λaa s U H R I q=>h aa s U H R I (f U H R q)
end
section
variable {K:PySem.W.Frag}{B:BB}{G I I1 H:Hp}{Γ ac:Gm}{f:Fl}{E:Ends}
theorem KS.after (k:KS K B G I ac f E) (g:Grow G I I1):KS K B G I1 ac f E:=λaf H' I' r g'=>k af H' I' r (g.trans g')
theorem KG.after {m:Nat}{U bX:L2.St}{Q:L2.St->Hp->Prop} (k:KG K B m U G I ac Q) (g:Grow G I I1) (hs:bX.drop m=U.drop m):KG K B m bX G I1 ac Q:=λaf H' I' r g' z=>k af H' I' r (g.trans g') (z.trans hs)
end
section
variable {X:Cx}{B:BB}{a b c e:Expr}{es:List Expr}{pos:Pos}{ga gb gc:M D}{st:Stmt}{aw:List Stmt}{g h:M Fl}
noncomputable def seqS (g h:M Fl):M Fl:=bnd g λf=>match f with
 | .nx=>h
 | .rt r=>ret (.rt r)
 | .bk=>ret .bk
 | .ct=>ret .ct
theorem xk:SDs X B [] (ret .nx):=PSs.imp A' λE U H q=>by
 obtain ⟨G,I,Γ,f,ac,r,e1,k⟩:=q
 cases e1
 exact k U H I r (Grow.refl _ _)
theorem vP (h:SD X B st g):SDs X B [st] g:=sF h
theorem zw (h1:SD X B st g) (h2:SDs X B aw h):SDs X B (st::aw) (seqS g h):=PSs.imp (qA h1 h2) λE U H q=>by
 obtain ⟨G,I,Γ,f,ac,r,e1,k⟩:=q
 obtain ⟨f1,Γ1,e2,e3⟩:=i' e1
 refine ⟨G,I,Γ,f1,Γ1,r,e2,λbX H1 I1 r1 g1=>?_⟩
 cases f1 with
 | nx=>exact ⟨G,I1,Γ1,f,ac,r1,e3,k.after g1⟩
 | bk=>cases e3;exact k bX H1 I1 r1 g1
 | ct=>cases e3;exact k bX H1 I1 r1 g1
 | rt v=>cases e3;exact k bX H1 I1 r1 g1
theorem tG:SD X B st (λ_=>none):=PS.imp AH λE U H q=>by
 obtain ⟨G,I,Γ,f,ac,r,e1,k⟩:=q
 cases e1
noncomputable def dropS (g:M D):M Fl:=bnd g λ_=>ret .nx
theorem mS (he:ED X B e ga) (hs:swapsWith e none pos.line X.env=pure false:=by rfl):SD X B (.Expr e pos) (dropS ga):=PS.imp (oy he hs) λE U H q=>by
 obtain ⟨G,I,Γ,f,ac,r,e1,k⟩:=q
 obtain ⟨d1,Γ1,e2,e3⟩:=i' e1
 cases e3
 exact ⟨G,I,Γ,d1,_,r,e2,λv H1 I1 r1 g1 h1=>k U H1 I1 r1 g1⟩
noncomputable def retS (g:M D):M Fl:=bnd g λd=>ret (.rt (.val d))
theorem mF (he:ED X B e ga):SD X B (.Return (some e) pos) (retS ga):=PS.imp (tH he) λE U H q=>by
 obtain ⟨G,I,Γ,f,ac,r,e1,k⟩:=q
 obtain ⟨d1,Γ1,e2,e3⟩:=i' e1
 cases e3
 exact ⟨G,I,Γ,d1,_,r,e2,λv H1 I1 r1 g1 h1=>k U H1 I1 r1 g1 v h1⟩
noncomputable def retO (g:M (List D)):M Fl:=bnd g λd=>ret (.rt (.own d))
theorem nV {g:M (List D)} (he:EO X B e g):SD X B (.Return (some e) pos) (retO g):=PS.imp (tH he) λE U H q=>by
 obtain ⟨G,I,Γ,f,ac,r,e1,k⟩:=q
 obtain ⟨d1,Γ1,e2,e3⟩:=i' e1
 cases e3
 exact ⟨G,I,Γ,d1,_,r,e2,λp xs H1 I1 r1 g1 h1 h2 h3 h4 h5=>k U H1 I1 r1 g1 _ ⟨p,xs,rfl,h1,h2,h3,h4,h5⟩⟩
noncomputable def ifS (c:M Bool) (a b:M Fl):M Fl:=bnd c λk=>if k then a else b
theorem B4 {tc:M Bool}{sa sb:List Stmt} (hc:TD X B c tc) (ha:SDs X B sa g) (hb:SDs X B sb h):SD X B (.If c sa sb pos) (ifS tc g h):=PS.imp (tF hc ha hb) λE U H q=>by
 obtain ⟨G,I,Γ,f,ac,r,e1,k⟩:=q
 obtain ⟨d1,Γ1,e2,e3⟩:=i' e1
 refine ⟨G,I,Γ,d1,Γ1,r,e2,λH1 I1 r1 g1=>?_⟩
 cases d1 with
 | true=>exact iteT ⟨G,I1,Γ1,f,ac,r1,e3,k.after g1⟩
 | false=>exact iteF ⟨G,I1,Γ1,f,ac,r1,e3,k.after g1⟩
noncomputable def putS (i:Nat) (q:R):M Unit:=λΓ=>if i < Γ.length then some ((),Γ.set i (some q)) else none
noncomputable def tgN (i:Nat) (d:D):M Unit:=putS i (.val d)
theorem pd {i:Nat}{q:R}{Γ ac:Gm}{u:Unit} (h:putS i q Γ=some (u,ac)):i < Γ.length/\ac=Γ.set i (some q):=by
 unfold putS at h
 obtain ⟨h1,h2⟩:=my h
 cases h2
 exact ⟨h1,rfl⟩
theorem uo {α:Type}:∀ {l:List α}{i m:Nat}{a:α},i < m->(l.set i a).drop m=l.drop m
 | [],_,_,_,_=>rfl
 | _::_,0,m+1,_,_=>rfl
 | _::r,i+1,m+1,a,h=>by
  rw [List.set_cons_succ,drop_succ_cons,drop_succ_cons]
  exact uo (Nat.lt_of_succ_lt_succ h)
theorem gd_n {i m:Nat}{x:Str} (hN:X.N.Nodup) (hi:X.N[i]?=some x:=by rfl) (hx:locB X.env.scope x=true:=by rfl) (hf:fnB X x=true:=by rfl) (jH:i < m:=by decide):GD X B m (.Name x pos) (tgN i) :=
 PG.imp (xz hN hi (locI hx) (fnI hf)) λv U H Q q=>by
  obtain ⟨G,I,Γ,d,ac,r,hd,e1,k⟩:=q
  obtain ⟨hl,rfl⟩:=pd e1
  exact k _ _ I (r.store (by rw [r.len];exact hl) hd (λm=>nomatch m) (λ_ z=>nomatch z)) (Grow.refl _ _) (uo jH)
noncomputable def tgNil (ds:List D):M Unit:=match ds with
 | []=>ret ()
 | _=>λ_=>none
noncomputable def tgCons (f:D->M Unit) (t:List D->M Unit) (ds:List D):M Unit:=match ds with
 | d::r=>bnd (f d) λ_=>t r
 | []=>λ_=>none
theorem qc {m:Nat}:GDs X B m [] tgNil:=PGs.imp yU λv U H Q q=>by
 obtain ⟨G,I,Γ,ds,ac,r,hd,e1,k⟩:=q
 cases ds with
 | nil=>cases e1;exact ⟨hd.nil_inv,k _ _ I r (Grow.refl _ _) rfl⟩
 | cons d t=>cases e1
theorem nN {m:Nat}{f:D->M Unit}{t:List D->M Unit} (h1:GD X B m e f) (h2:GDs X B m es t) (hs:(assignEach (e::es) X.env).map (·.2)=assign e X.env::(assignEach es X.env).map (·.2):=by rfl):GDs X B m (e::es) (tgCons f t):=PGs.imp (wP h1 h2 hs) λv U H Q q=>by
 obtain ⟨G,I,Γ,ds,ac,r,hd,e1,k⟩:=q
 cases ds with
 | nil=>cases e1
 | cons d t =>
  obtain ⟨x,xs,rfl,h1,h2⟩:=hd.cons_inv
  obtain ⟨u,Γ1,e2,e3⟩:=i' e1
  exact ⟨x,xs,rfl,G,I,Γ,d,Γ1,r,h1,e2,λbX H1 I1 r1 g1 z=>⟨G,I1,Γ1,t,ac,r1,h2.mono g1.up,e3,k.after g1 z⟩⟩
noncomputable def tgTup (n:Nat) (t:List D->M Unit) (d:D):M Unit:=match d with
 | .tup ds=>if ds.length=n then t ds else λ_=>none
 | _=>λ_=>none
theorem qs {k m:Nat}{t:List D->M Unit}{n:Nat} (hc:X.calm=true) (h:GDs X B m es t) (hn:(assignEach es X.env).length=n:=by rfl) (fQ:(assignEach es X.env).findIdx? (·.1)=none:=by rfl):GD X B m (.Tuple es k pos) (tgTup n t) :=
 PG.imp (wQ hc h hn fQ) λv U H Q q=>by
  obtain ⟨G,I,Γ,d,ac,r,hd,e1,k⟩:=q
  cases d with
  | tup ds =>
   obtain ⟨a,xs,rfl,h1,h2⟩:=mv hd
   unfold tgTup at e1
   by_cases hl:ds.length=n
   ·simp only [hl,if_true] at e1
    exact ⟨a,xs,rfl,Same.sqT r.iH h1,by rw [← h2.length];exact hl,G,I,Γ,ds,ac,r,h2,e1,k⟩
   ·simp only [hl,if_false] at e1;cases e1
  | _=>cases e1
noncomputable def setV (i:Nat) (g:M D):M Fl:=bnd g λd=>bnd (putS i (.val d)) λ_=>ret .nx
noncomputable def setO (i:Nat) (g:M (List D)):M Fl:=bnd g λd=>bnd (putS i (.own d)) λ_=>ret .nx
theorem ww {K:PySem.W.Frag}{i:Nat}:∀ E U H,tS K B (setV i ga) E U H->tAsg (tD K B ga) (gName i) E U H:=λE U H q=>by
 obtain ⟨G,I,Γ,f,ac,r,e1,k⟩:=q
 obtain ⟨d1,Γ1,e2,e3⟩:=i' e1
 obtain ⟨d2,ai,e4,e5⟩:=i' e3
 cases e5
 obtain ⟨hl,rfl⟩:=pd e4
 exact ⟨G,I,Γ,d1,Γ1,r,e2,λv H1 I1 r1 g1 h1=>k _ H1 I1 (r1.store (by rw [r1.len];exact hl) h1 (λm=>nomatch m) (λ_ z=>nomatch z)) g1⟩
theorem yw {K:PySem.W.Frag}{i:Nat}{g:M (List D)}:∀ E U H,tS K B (setO i g) E U H->tAsg (tO K B g) (gName i) E U H:=λE U H q=>by
 obtain ⟨G,I,Γ,f,ac,r,e1,k⟩:=q
 obtain ⟨d1,Γ1,e2,e3⟩:=i' e1
 obtain ⟨d2,ai,e4,e5⟩:=i' e3
 cases e5
 obtain ⟨hl,rfl⟩:=pd e4
 exact ⟨G,I,Γ,d1,Γ1,r,e2,λp xs H1 I1 r1 g1 h1 h2 h3 h4 h5=>k _ H1 I1 (r1.store (by rw [r1.len];exact hl) ⟨p,xs,rfl,h1,h2,h3,h5⟩ (λ_ p' z=>by cases z;exact h4) (λ_ z=>nomatch z)) g1⟩
theorem uL {i:Nat}{x:Str}{aO:Pos} (hN:X.N.Nodup) (he:ED X B e ga) (hi:X.N[i]?=some x:=by rfl) (hx:locB X.env.scope x=true:=by rfl) (hs:swapsWith e (some (.Name x aO)) pos.line X.env=pure false:=by rfl)
  (hf:fnB X x=true:=by rfl):SD X B (.Assign [.Name x aO] e pos) (setV i ga):=PS.imp (uB hN hi (locI hx) he hs (fnI hf)) ww
theorem nT {i:Nat}{x:Str}{aO:Pos}{g:M (List D)} (hN:X.N.Nodup) (he:EO X B e g) (hi:X.N[i]?=some x:=by rfl) (hx:locB X.env.scope x=true:=by rfl) (hs:swapsWith e (some (.Name x aO)) pos.line X.env=pure false:=by rfl)
  (hf:fnB X x=true:=by rfl):SD X B (.Assign [.Name x aO] e pos) (setO i g):=PS.imp (uB hN hi (locI hx) he hs (fnI hf)) yw
noncomputable def isMut (Γ:Gm) (i:Nat):Bool:=match Γ[i]? with
 | some (some r)=>r.mut
 | _=>false
noncomputable def wr (i:Nat) (F:List D->Option (List D)):M Unit:=λΓ=>match Γ[i]? with
 | some (some (.own ds))=>match F ds with
  | some es=>some ((),Γ.set i (some (.own es)))
  | none=>none
 | some (some (.bor ds))=>match F ds with
  | some es=>some ((),Γ.set i (some (.bor es)))
  | none=>none
 | _=>none
theorem oo {K:PySem.W.Frag}{G I H:Hp}{U:L2.St}{Γ:Gm}{i:Nat} (h:isMut Γ i=true) (r:Rep K B G I H U Γ):∃ p xs,U[i]?=some (some (.ref p))/\H p=some (.lst xs):=by
 unfold isMut at h
 cases e:Γ[i]? with
 | none=>rw [e] at h;cases h
 | some o =>
  cases o with
  | none=>rw [e] at h;cases h
  | some q =>
   rw [e] at h
   obtain ⟨v,h1,h2⟩:=r.slot i q e
   cases q with
   | val d=>cases h
   | fro d=>cases h
   | dic d=>cases h
   | own d=>obtain ⟨p,xs,rfl,h3,_⟩:=h2;exact ⟨p,xs,h1,h3⟩
   | bor d=>obtain ⟨p,xs,rfl,h3,_⟩:=h2;exact ⟨p,xs,h1,h3⟩
theorem pD {K:PySem.W.Frag}{G I H:Hp}{U:L2.St}{Γ ac:Gm}{i:Nat}{F:List D->Option (List D)}{u:Unit} (h:wr i F Γ=some (u,ac)) (r:Rep K B G I H U Γ) :
  ∃ p xs ds es,U[i]?=some (some (.ref p))/\H p=some (.lst xs)/\IsA K I ds xs/\F ds=some es/\∀ ys,IsA K I es ys->Rep K B G I (upd H p (.lst ys)) U ac:=by
 unfold wr at h
 cases e:Γ[i]? with
 | none=>rw [e] at h;cases h
 | some o =>
  cases o with
  | none=>rw [e] at h;cases h
  | some q =>
   obtain ⟨v,h1,h2⟩:=r.slot i q e
   cases q with
   | val d=>rw [e] at h;cases h
   | fro d=>rw [e] at h;cases h
   | dic d=>rw [e] at h;cases h
   | own ds =>
    rw [e] at h
    obtain ⟨p,xs,rfl,g1,g2,g3,g4⟩:=h2
    cases hf:F ds with
    | none=>simp only [hf] at h;cases h
    | some es =>
     simp only [hf] at h;cases h
     exact ⟨p,xs,ds,es,h1,g1,g4,hf,λys hy=>r.write e rfl h1 g1 (.inl rfl) hy⟩
   | bor ds =>
    rw [e] at h
    obtain ⟨p,xs,rfl,g1,g2,g3,g4⟩:=h2
    cases hf:F ds with
    | none=>simp only [hf] at h;cases h
    | some es =>
     simp only [hf] at h;cases h
     exact ⟨p,xs,ds,es,h1,g1,g4,hf,λys hy=>r.write e rfl h1 g1 (.inr ⟨rfl,ds,rfl⟩) hy⟩
noncomputable def mutS {α:Type} (i:Nat) (m:M α):M α:=λΓ=>if isMut Γ i then m Γ else none
theorem ou {α:Type}{i:Nat}{m:M α}{Γ:Gm}{r:α×Gm} (h:mutS i m Γ=some r):isMut Γ i=true/\m Γ=some r:=by
 unfold mutS at h
 by_cases hc:isMut Γ i=true
 ·rw [if_pos hc] at h;exact ⟨hc,h⟩
 ·rw [if_neg hc] at h;cases h
noncomputable def appF (d:D) (ds:List D):Option (List D):=if ds.length < lim then some (ds++[d]) else none
noncomputable def extF (d:D) (ds:List D):Option (List D):=match d with
 | .lst es=>if ds.length+es.length<=lim then some (ds++es) else none
 | _=>none
noncomputable def appS (i:Nat) (g:M D):M Fl:=mutS i (bnd g λd=>bnd (wr i (appF d)) λ_=>ret .nx)
noncomputable def extS (i:Nat) (g:M D):M Fl:=mutS i (bnd g λd=>bnd (wr i (extF d)) λ_=>ret .nx)
theorem qU {aa:List (Addr×Obj)}{U:L2.St}{H:Hp}{s:Shared}{l:Addr}{xs:List V} (I:Inv X aa U H s) (hH:RdK X.K H l xs):xs.length<=sizeLine/\∃ (ae:List Value) (n:Nat),Vals xs ae/\xs.length=ae.length/\s.heap.get? l=some { cls:=.type "list", data:=.seq ae.toArray n }:=by
 rcases hH with hH | ⟨ae,n,h1,h2,h3⟩
 ·obtain ⟨z,ae,n,r,e⟩:=hH.ok I.hok
  exact ⟨z,ae,n,r,r.length,e⟩
 ·exact ⟨by rw [h2.length];exact h3,ae,n,h2,h2.length,I.kIn l _ h1⟩
def rExtendR (K:PySem.W.Frag):V->List V->Hp->VK->Prop:=λx vs H Q=>∃ l b xs zs,x=.ref l/\vs=[.ref b]/\H l=some (.lst xs)/\RdK K H b zs/\xs.length+zs.length<=sizeLine/\Q .non (upd H l (.lst (xs++zs)))
theorem wd:MtM X "list.extend" (rExtendR X.K):=by
 intro aa s U H x vs v us Q I rx rv h
 obtain ⟨l,b,xs,zs,rfl,rfl,hH,hB,hz,q⟩:=h
 cases rx
 obtain ⟨u,rfl,ru⟩:=rv.one
 cases ru
 obtain ⟨z,ae,n,r,hl,e⟩:=I.lstM hH
 obtain ⟨z2,bn,n2,r2,cz,e2⟩:=qU I hB
 have eM:ae.toArray.size+bn.toArray.size<=sizeLine:=by rw [size_toArray,size_toArray];omega
 have fV:¬ (!ae.toArray.isEmpty&&listTooLong (ae.toArray.size+bn.toArray.size))=true:=by
  rw [notLongL eM,Bool.and_false]
  exact Bool.false_ne_true
 refine call_meets F.slot_list_extend ⟨_,e,rfl⟩ F.entry_list_extend (F.args_list_extend_2 _ _)
  (AutoSeq1.list_extend_list_list_0 l ae.toArray n b bn.toArray n2 fV (by rw [size_toArray];omega) (by omega)) ⟨e,e2,?_⟩
 refine ⟨.non,_,I.lset (its':=ae++bn) hH e (by simp) (r.append r2) ?_,rfl,q⟩
 rw [length_append]
 omega
theorem sN {i:Nat}{x:Str}{p1 aA aj:Pos} (hv:PE X (.Name x p1) (tVar i)) (ha:ED X B e ga) (hs:swapsWith (.Call (.Attribute (.Name x p1) "append" aA) [e] [] aj) none pos.line X.env=pure false:=by rfl)
  (cL:starEach [e] X.env=(false,eval e X.env)::starEach [] X.env:=by rfl)
  (bp:attributeBase (.Name x p1) "append" X.env (eval (.Name x p1) X.env)=eval (.Name x p1) X.env:=by rfl)
  (bQ:((backTo aj (starEach [e] X.env)).all (λx=>!x.1)&&(backToKw aj (keywordEach [] X.env)).all (λx=>x.1.isSome)
   &&decide ([e].length+([]:List Keyword).length+(if ([]:List Keyword).isEmpty then 0 else 1) < 30))=true:=by rfl)
  (bq:(aA.endLine == aj.line)=true:=by rfl) (ba:(backTo aj (starEach [] X.env)).any (·.1)=false:=by rfl) :
  SD X B (.Expr (.Call (.Attribute (.Name x p1) "append" aA) [e] [] aj) pos) (appS i ga) :=
 PS.imp (oy (sB plainAttrs_list PySem.F.slot_list_append PySem.F.type_list_append v5 hv (mX ha nW cL) bp bQ bq cL ba) hs) λE U H q=>by
  obtain ⟨G,I,Γ,f,ac,r,e1,k⟩:=q
  obtain ⟨hm,e1⟩:=ou e1
  obtain ⟨d1,Γ1,e2,e3⟩:=i' e1
  obtain ⟨d2,ai,e4,e5⟩:=i' e3
  cases e5
  obtain ⟨p,xs,h1,h2⟩:=oo hm r
  refine ⟨_,h1,.inl ⟨rfl,xs,SqL.of h2⟩,G,I,Γ,d1,Γ1,r,e2,λv H1 I1 r1 g1 hd=>?_⟩
  obtain ⟨p',aV,ds,es,h3,h4,h5,h6,h7⟩:=pD e4 r1
  have hp:p'=p:=by rw [h1] at h3;cases h3;rfl
  subst hp
  obtain ⟨hl,rfl⟩:=my h6
  refine ⟨p',aV,v,rfl,rfl,h4,?_,k U _ I1 (h7 _ (IsA.append h5 (IsA.cons hd IsA.nil))) g1⟩
  rw [← h5.length]
  exact lt_of_lt_of_le hl (nS (le_refl _))
theorem B7 {i:Nat}{x:Str}{p1 aA aj:Pos} (hv:PE X (.Name x p1) (tVar i)) (ha:ED X B e ga) (hs:swapsWith (.Call (.Attribute (.Name x p1) "extend" aA) [e] [] aj) none pos.line X.env=pure false:=by rfl)
  (cL:starEach [e] X.env=(false,eval e X.env)::starEach [] X.env:=by rfl)
  (bp:attributeBase (.Name x p1) "extend" X.env (eval (.Name x p1) X.env)=eval (.Name x p1) X.env:=by rfl)
  (bQ:((backTo aj (starEach [e] X.env)).all (λx=>!x.1)&&(backToKw aj (keywordEach [] X.env)).all (λx=>x.1.isSome)
   &&decide ([e].length+([]:List Keyword).length+(if ([]:List Keyword).isEmpty then 0 else 1) < 30))=true:=by rfl)
  (bq:(aA.endLine == aj.line)=true:=by rfl) (ba:(backTo aj (starEach [] X.env)).any (·.1)=false:=by rfl) :
  SD X B (.Expr (.Call (.Attribute (.Name x p1) "extend" aA) [e] [] aj) pos) (extS i ga) :=
 PS.imp (oy (sB plainAttrs_list PySem.F.slot_list_extend PySem.F.type_list_extend wd hv (mX ha nW cL) bp bQ bq cL ba) hs) λE U H q=>by
  obtain ⟨G,I,Γ,f,ac,r,e1,k⟩:=q
  obtain ⟨hm,e1⟩:=ou e1
  obtain ⟨d1,Γ1,e2,e3⟩:=i' e1
  obtain ⟨d2,ai,e4,e5⟩:=i' e3
  cases e5
  obtain ⟨p,xs,h1,h2⟩:=oo hm r
  refine ⟨_,h1,.inl ⟨rfl,xs,SqL.of h2⟩,G,I,Γ,d1,Γ1,r,e2,λv H1 I1 r1 g1 hd=>?_⟩
  obtain ⟨p',aV,ds,es,h3,h4,h5,h6,h7⟩:=pD e4 r1
  have hp:p'=p:=by rw [h1] at h3;cases h3;rfl
  subst hp
  cases d1 with
  | lst zs =>
   obtain ⟨a,ys,rfl,i1,i2⟩:=mx hd
   obtain ⟨hl,rfl⟩:=my h6
   refine ⟨p',a,aV,ys,rfl,rfl,h4,Same.rdK r1.iH i1,?_,k U _ I1 (h7 _ (IsA.append h5 i2)) g1⟩
   rw [← h5.length,← i2.length]
   exact nS hl
  | _=>cases h6
noncomputable def asI (d:D):Option Int:=match d with
 | .int i=>some i
 | _=>none
theorem ut {d:D}{i:Int} (h:asI d=some i):d=.int i:=by
 cases d<;>simp [asI] at h
 rw [h]
noncomputable def stF (k:Int) (d:D) (ds:List D):Option (List D):=(ixN ds.length k).map λj=>ds.set j d
noncomputable def stS (i:Nat) (gi gv:M D):M Fl:=bnd gv λd=>mutS i (bnd gi λn=>bnd (lft (asI n)) λk=>bnd (wr i (stF k d)) λ_=>ret .nx)
theorem qf {i:Nat}{x:Str}{p1 p2:Pos}{ie:Expr}{gi:M D} (hv:PE X (.Name x p1) (tVar i)) (hi:ED X B ie gi) (he:ED X B e ga)
  (ha:∀ v,assign (.Subscript (.Name x p1) ie p2) X.env v=(do
   let ov ← holding [v] (eval (.Name x p1) X.env)
   let iv ← holding [v,ov] (eval ie X.env)
   standAt p2
   holding [v,ov,iv] (setItem ov iv v)
   release [v,ov,iv] []):=by intro _;rfl)
  (hs:swapsWithSole [.Subscript (.Name x p1) ie p2] e pos.line X.env=pure false:=by rfl) (hw:swappedStores [.Subscript (.Name x p1) ie p2] e X.env=pure none:=by rfl)
  (h1:(assignEach [.Subscript (.Name x p1) ie p2] X.env).map (·.2)=[assign (.Subscript (.Name x p1) ie p2) X.env]:=by rfl) :
  SD X B (.Assign [.Subscript (.Name x p1) ie p2] e pos) (stS i gi ga):=PS.imp (Au he (wT hv hi BX ha) hs hw h1) λE U H q=>by
 obtain ⟨G,I,Γ,f,ac,r,e1,k⟩:=q
 obtain ⟨d,Γ1,e2,e3⟩:=i' e1
 obtain ⟨hm,e3⟩:=ou e3
 obtain ⟨n,ai,e4,e5⟩:=i' e3
 obtain ⟨z,aF,e6,e7⟩:=i' e5
 obtain ⟨e8,rfl⟩:=mr e6
 obtain ⟨u,aI,f1,f2⟩:=i' e7
 cases f2
 have:=ut e8
 subst this
 refine ⟨G,I,Γ,d,Γ1,r,e2,λv H1 I1 r1 g1 hd=>?_⟩
 obtain ⟨p,xs,h1,h2⟩:=oo hm r1
 refine ⟨_,h1,G,I1,Γ1,_,_,r1,e4,λw H2 I2 r2 g2 hw=>?_⟩
 obtain ⟨p',aV,ds,es,h3,h4,h5,h6,h7⟩:=pD f1 r2
 have hp:p'=p:=by rw [h1] at h3;cases h3;rfl
 subst hp
 unfold stF at h6
 cases hj:ixN ds.length z with
 | none=>rw [hj] at h6;cases h6
 | some j =>
  rw [hj] at h6
  cases h6
  exact ⟨p',aV,z,j,rfl,mn hw,h4,by rw [← h5.length];exact hj,k U _ I2 (h7 _ (IsA.set (hd.mono g2.up) j h5)) (g1.trans g2)⟩
def Yields (K:PySem.W.Frag) (I:Hp) (ds:List D) (J:It):Prop:=∀ (i:Nat) (H1:Hp),Same I H1 →
 (∀ d,ds[i]?=some d->J.go i H1/\∀ x H2,J.yld i H1 x H2->(H2=H1/\Is K I d x)\/(∃ p es xs,d=.tup es/\x=.ref p/\H1 p=none/\H2=upd H1 p (.tup xs)/\IsA K I es xs))/\(ds.length<=i->J.stop i H1)
noncomputable def tI (K:PySem.W.Frag) (B:BB) (g:M (List D)):TI:=λU H R=>∃ G I Γ ds ac,Rep K B G I H U Γ/\g Γ=some (ds,ac)/\∀ J H' I',Rep K B G I' H' U ac->Grow G I I'->Yields K I' ds J->R J H'
def ITD (X:Cx) (B:BB) (tg iter:Expr) (g:M (List D)):Prop:=PI X tg iter (tI X.K B g)
theorem wy {tg l:Expr}{tl:TE} (hl:PE X l tl):PI X tg l (λU H R=>tl U H λx H1=>(∃ a,x=.ref a/\(∃ xs,SqL X.K H1 a xs)/\R (Itl X.K a) H1)\/(∃ a,x=.ref a/\(∃ xs,SqT X.K H1 a xs)/\R (Itt X.K a) H1)):=by
 intro aa s U H R I h
 refine thn (hl aa s U H _ I h) λv s1 ⟨x,H1,I1,r1,q1⟩=>?_
 rcases q1 with ⟨a,e,⟨xs,hq⟩,q⟩ | ⟨a,e,⟨xs,hq⟩,q⟩
 ·subst e
  cases r1
  obtain ⟨ae,rv,p,hz⟩:=I1.list hq
  refine wpAny_pyIter_list p.isList ?_
  refine ⟨s1.heap.objs.size,[s1.heap.objs.size],_,_,H1,rfl,I1.kept (t':=s1.toks) λb o e=>get?_push_of_some _ e,B2 a _,⟨_,get?_push_size _ rfl,rfl,rfl⟩,λb hb=>?_,q⟩
  have e:b=s1.heap.objs.size:=by simpa using hb
  subst e
  exact I1.fpOk (le_refl _) (I1.hok.fresh (le_refl _))
 ·subst e
  cases r1
  obtain ⟨ae,rv,p,hz⟩:=I1.tuple hq
  refine wpAny_pyIter_tuple (show s1.heap.IsTuple a ae.toArray from p) ?_
  refine ⟨s1.heap.objs.size,[s1.heap.objs.size],_,_,H1,rfl,I1.kept (t':=s1.toks) λb o e=>get?_push_of_some _ e,Ag a _,⟨_,get?_push_size _ rfl,rfl,rfl⟩,λb hb=>?_,q⟩
  have e:b=s1.heap.objs.size:=by simpa using hb
  subst e
  exact I1.fpOk (le_refl _) (I1.hok.fresh (le_refl _))
noncomputable def seqI (d:D):Option (List D):=match d with
 | .lst ds=>some ds
 | .tup ds=>some ds
 | _=>none
noncomputable def itS (g:M D):M (List D):=bnd g λd=>lft (seqI d)
theorem nj {tg:Expr} (ha:ED X B a ga):ITD X B tg a (itS ga):=PI.imp (wy ha) λU H R q=>by
 obtain ⟨G,I,Γ,ds,ac,r,e1,k⟩:=q
 obtain ⟨d,Γ1,e2,e3⟩:=i' e1
 obtain ⟨e4,rfl⟩:=mr e3
 refine ⟨G,I,Γ,d,_,r,e2,λv H1 I1 r1 g1 hd=>?_⟩
 cases d with
 | lst es =>
  cases e4
  obtain ⟨l,xs,rfl,h1,h2⟩:=mx hd
  refine .inl ⟨l,rfl,⟨xs,(Same.rdK r1.iH h1).sq⟩,k _ _ _ r1 g1 λi H2 s2=>⟨λd hd=>?_,λhi=>⟨xs,(Same.rdK s2 h1).sq,by rw [← h2.length];exact hi⟩⟩⟩
  obtain ⟨x,e5,e6⟩:=h2.get hd
  refine ⟨⟨xs,x,(Same.rdK s2 h1).sq,e5⟩,λy H3 hy=>.inl ⟨hy.1,?_⟩⟩
  have:=hy.2 xs ((Same.rdK s2 h1).sq)
  rw [e5] at this;cases this
  exact e6
 | tup es =>
  cases e4
  obtain ⟨l,xs,rfl,h1,h2⟩:=mv hd
  refine .inr ⟨l,rfl,⟨xs,Same.sqT r1.iH h1⟩,k _ _ _ r1 g1 λi H2 s2=>⟨λd hd=>?_,λhi=>⟨xs,Same.sqT s2 h1,by rw [← h2.length];exact hi⟩⟩⟩
  obtain ⟨x,e5,e6⟩:=h2.get hd
  refine ⟨⟨xs,x,Same.sqT s2 h1,e5⟩,λy H3 hy=>.inl ⟨hy.1,?_⟩⟩
  have:=hy.2 xs (Same.sqT s2 h1)
  rw [e5] at this;cases this
  exact e6
 | _=>cases e4
noncomputable def rngD (lo:Int) (n:Nat):List D:=(range n).map λ(k:Nat)=>D.int (lo+(k:Int))
theorem u4 {K:PySem.W.Frag}{I:Hp} (lo:Int) (n:Nat):Yields K I (rngD lo n) (Itr lo n):=λi H1 s1=>by
 refine ⟨λd hd=>?_,λhi=>?_⟩
 ·unfold rngD at hd
  rw [getElem?_map] at hd
  cases e:(range n)[i]? with
  | none=>rw [e] at hd;cases hd
  | some j =>
   rw [e] at hd
   cases hd
   obtain ⟨h1,h2⟩:=List.getElem?_eq_some_iff.mp e
   rw [getElem_range] at h2
   rw [length_range] at h1
   subst h2
   refine ⟨h1,λx H2 hy=>.inl ⟨hy.1,?_⟩⟩
   rw [hy.2]
   exact Is.int _
 ·unfold rngD at hi
  rw [length_map,length_range] at hi
  exact hi
noncomputable def rngI1 (ds:List D):Option (List D):=match ds with
 | [.int j]=>if -1000000<=j/\j<=1000000 then some (rngD 0 j.toNat) else none
 | _=>none
noncomputable def rngI2 (ds:List D):Option (List D):=match ds with
 | [.int i,.int j]=>if (-1000000<=i/\i<=1000000)/\-1000000<=j/\j<=1000000 then some (rngD i (j - i).toNat) else none
 | _=>none
theorem uk {ds es:List D} (h:rngI1 ds=some es):∃ j:Int,ds=[.int j]/\(-1000000<=j/\j<=1000000)/\es=rngD 0 j.toNat:=by
 unfold rngI1 at h
 split at h
 ·obtain ⟨h1,h2⟩:=my h
  exact ⟨_,rfl,h1,h2⟩
 ·cases h
theorem yB {ds es:List D} (h:rngI2 ds=some es):∃ i j:Int,ds=[.int i,.int j]/\((-1000000<=i/\i<=1000000)/\-1000000<=j/\j<=1000000)/\es=rngD i (j - i).toNat:=by
 unfold rngI2 at h
 split at h
 ·obtain ⟨h1,h2⟩:=my h
  exact ⟨_,_,rfl,h1,h2⟩
 ·cases h
theorem rS {tg:Expr}{p:Pos}{t:M (List D)} (hg:Gl X "range") (hm:X.mg "range"=none) (ha:AD X B [a] t) (hs:starEach [a] X.env=[(false,eval a X.env)]:=by rfl):ITD X B tg (.Call (.Name "range" p) [a] [] pos) (fn1 rngI1 t) :=
 PI.imp (yk hg hm ha hs) λU H R q=>by
  obtain ⟨G,I,Γ,ds,ac,r,e1,k⟩:=q
  obtain ⟨d,Γ1,e2,e3⟩:=i' e1
  obtain ⟨e4,rfl⟩:=mr e3
  obtain ⟨j,rfl,⟨h1,h2⟩,rfl⟩:=uk e4
  refine ⟨G,I,Γ,_,_,r,e2,λvs H1 I1 r1 g1 hd=>?_⟩
  obtain ⟨x,rfl,hx⟩:=hd.one
  exact ⟨j,by rw [mn hx],by omega,by omega,k _ _ _ r1 g1 (u4 _ _)⟩
theorem Ay {tg:Expr}{p:Pos}{t:M (List D)} (hg:Gl X "range") (hm:X.mg "range"=none) (ha:AD X B [a,b] t) (hs:starEach [a,b] X.env=[(false,eval a X.env),(false,eval b X.env)]:=by rfl) (bw:starEach [b] X.env=[(false,eval b X.env)]:=by rfl) :
  ITD X B tg (.Call (.Name "range" p) [a,b] [] pos) (fn1 rngI2 t) :=
 PI.imp (yh hg hm ha hs bw) λU H R q=>by
  obtain ⟨G,I,Γ,ds,ac,r,e1,k⟩:=q
  obtain ⟨d,Γ1,e2,e3⟩:=i' e1
  obtain ⟨e4,rfl⟩:=mr e3
  obtain ⟨i,j,rfl,h1,rfl⟩:=yB e4
  refine ⟨G,I,Γ,_,_,r,e2,λvs H1 I1 r1 g1 hd=>?_⟩
  obtain ⟨x,y,rfl,hx,hy⟩:=hd.two
  exact ⟨i,j,by rw [mn hx,mn hy],by omega,k _ _ _ r1 g1 (u4 _ _)⟩
noncomputable def forM (ay:D->M Unit) (body:M Fl):List D->M Fl
 | []=>ret .nx
 | d::ds=>bnd (ay d) λ_=>bnd body λf=>match f with
  | .nx=>forM ay body ds
  | .ct=>forM ay body ds
  | .bk=>ret .nx
  | .rt r=>ret (.rt r)
noncomputable def forS (it:M (List D)) (ay:D->M Unit) (body:M Fl):M Fl:=bnd it λds=>forM ay body ds
theorem wv {m:Nat}{iter tg:Expr}{body:List Stmt}{it:M (List D)}{ay:D->M Unit} (hp:PassesOwn (model X.prog X.w) X.A X.env X.xe) (hc:X.calm=true) (hi:ITD X B tg iter it) (hg:GD X B m tg ay) (hb:SDs X B body g)
  (hs:∀ x,foldedSetIterable iter X.env x=pure x:=by intro _;rfl):SD X B (.For tg iter body [] pos) (forS it ay g):=PS.imp (zJ hp hc hi hg hb hs) λE U H q=>by
 obtain ⟨G,I,Γ,f,ac,r,e1,k⟩:=q
 obtain ⟨ds,Γ1,e2,e3⟩:=i' e1
 refine ⟨G,I,Γ,ds,Γ1,r,e2,λJ H1 I1 r1 g1 y=>?_⟩
 refine ⟨λi m U H=>∃ I2 ai,Rep X.K B G I2 H U ai/\Grow G I1 I2/\forM ay g (ds.drop i) ai=some (f,ac)/\i<=ds.length/\m=ds.length - i,⟨ds.length,I1,Γ1,r1,Grow.refl _ _,by simpa using e3,zero_le _,rfl⟩,?_⟩
 rintro i m' aL H2 ⟨I2,ai,r2,g2,e4,dk,rfl⟩
 obtain ⟨yg,ys⟩:=y i H2 (g2.up.trans r2.iH)
 by_cases br:i < ds.length
 ·have hd:ds.drop i=ds[i]::ds.drop (i+1):=drop_eq_getElem_cons br
  obtain ⟨go,yld⟩:=yg ds[i] (getElem?_eq_getElem br)
  rw [hd] at e4
  obtain ⟨u,aF,e5,e6⟩:=i' e4
  obtain ⟨fl,aI,e7,e8⟩:=i' e6
  refine .inr ⟨go,λaf H'=>∃ I3,Rep X.K B G I3 H' af aI/\Grow G I1 I3/\(fl=.nx\/fl=.ct),λaf H' ⟨I3,r3,g3,hf⟩=>⟨ds.length - (i+1),by omega,I3,aI,r3,g3,?_,br,rfl⟩,λx H3 hy=>?_⟩
  ·rcases hf with rfl | rfl<;>exact e8
  ·have iB:∀ I3,Rep X.K B G I3 H3 aL ai->Grow G I2 I3->Is X.K I3 ds[i] x->tGD X.K B m ay x aL H3 λaL H2=>tS X.K B g { E with nx:=λaf H'=>∃ I3,Rep X.K B G I3 H' af aI/\Grow G I1 I3/\(fl=.nx\/fl=.ct),ct:=λaf H'=>∃ I3,Rep X.K B G I3 H' af aI/\Grow G I1 I3/\(fl=.nx\/fl=.ct),bk:=E.nx } aL H2:=by
    intro I3 r3 g3 hx
    refine ⟨G,I3,ai,ds[i],aF,r3,hx,e5,λiC H4 I4 r4 g4 _=>⟨G,I4,aF,fl,aI,r4,e7,λcA H5 I5 r5 g5=>?_⟩⟩
    have gg:Grow G I1 I5:=g2.trans (g3.trans (g4.trans g5))
    cases fl with
    | nx=>exact ⟨I5,r5,gg,.inl rfl⟩
    | ct=>exact ⟨I5,r5,gg,.inr rfl⟩
    | bk=>cases e8;exact k cA H5 I5 r5 (g1.trans gg)
    | rt v=>cases e8;exact k cA H5 I5 r5 (g1.trans gg)
   rcases yld x H3 hy with ⟨rfl,hx⟩ | ⟨p,es,xs,cb,rfl,cM,rfl,hx⟩
   ·exact iB I2 r2 (Grow.refl _ _) (hx.mono g2.up)
   ·refine iB _ (r2.alloc cM _) (r2.growAlloc cM _) ?_
    rw [cb]
    exact Is.tup (SqT.of mq) ((hx.mono g2.up).mono (mG (r2.iFree cM) _))
 ·have cN:i=ds.length:=by omega
  subst cN
  rw [List.drop_length] at e4
  cases e4
  exact .inl ⟨ys (le_refl _),k aL H2 I2 r2 (g1.trans g2)⟩
end
noncomputable def fin:List R->Gm->Option (List R)
 | [],_=>some []
 | .val d::rs,_::Γ=>match fin rs Γ with
  | some l=>some (.val d::l)
  | none=>none
 | .bor _::rs,some (.bor ds)::Γ=>match fin rs Γ with
  | some l=>some (.bor ds::l)
  | none=>none
 | _,_=>none
noncomputable def flR:Fl->Option R
 | .rt r=>some r
 | .nx=>some (.val .non)
 | _=>none
noncomputable def fnD1 (n:Nat) (body:M Fl) (rs:List R):Option (R×List R) :=
 match body (rs.map some++replicate (n - rs.length) none) with
 | some (f,ac)=>match flR f with
  | some r=>match fin rs ac with
   | some l=>some (r,l)
   | none=>none
  | none=>none
 | none=>none
noncomputable def fnD (n ar:Nat) (body:M Fl) (rs:List R):Option (R×List R):=if rs.length=ar then fnD1 n body rs else none
noncomputable def noOwn:R->Bool
 | .own _=>false
 | _=>true
noncomputable def vB (vs:List V):BB:=λi=>(vs.map some)[i]?
noncomputable def spD (K:PySem.W.Frag) (g:List R->Option (R×List R)):Sp:=λvs H Q _=>∃ (G I:Hp) (rs:List R) (r:R) (aK:List R),Rep K (vB vs) G I H (vs.map some) (rs.map some)/\rs.all noOwn=true/\g rs=some (r,aK) ∧
 ∀ v H' I',Rep K (vB vs) G I' H' (vs.map some) (aK.map some)->Grow G I I'->ResOk K G I' H' (vs.map some) (aK.map some) r v->Q v H'
theorem sr:∀ {rs l:List R}{Γ:Gm},fin rs Γ=some l->l.length=rs.length/\∀ (i:Nat) (r:R),l[i]?=some r->(∃ d,r=.val d/\rs[i]?=some (.val d))\/(∃ ds,r=.bor ds/\Γ[i]?=some (some (.bor ds)))
 | [],l,Γ,h=>by
  rw [fin] at h;cases h
  exact ⟨rfl,λi r e=>by simp at e⟩
 | .val d::rs,l,[],h=>by simp [fin] at h
 | .bor d::rs,l,[],h=>by simp [fin] at h
 | .own d::rs,l,Γ,h=>by cases Γ<;>simp [fin] at h
 | .fro d::rs,l,Γ,h=>by cases Γ<;>simp [fin] at h
 | .dic d::rs,l,Γ,h=>by cases Γ<;>simp [fin] at h
 | .val d::rs,l,o::Γ,h=>by
  rw [fin] at h
  cases e:fin rs Γ with
  | none=>rw [e] at h;cases h
  | some l' =>
   rw [e] at h;cases h
   obtain ⟨h1,h2⟩:=sr e
   refine ⟨by simp [h1],λi r er=>?_⟩
   cases i with
   | zero=>simp at er;subst er;exact .inl ⟨d,rfl,rfl⟩
   | succ i =>
    rcases h2 i r (by simpa using er) with ⟨d',e1,e2⟩ | ⟨ds,e1,e2⟩
    ·exact .inl ⟨d',e1,by simpa using e2⟩
    ·exact .inr ⟨ds,e1,by simpa using e2⟩
 | .bor d::rs,l,none::Γ,h=>by simp [fin] at h
 | .bor d::rs,l,some (.val x)::Γ,h=>by simp [fin] at h
 | .bor d::rs,l,some (.own x)::Γ,h=>by simp [fin] at h
 | .bor d::rs,l,some (.fro x)::Γ,h=>by simp [fin] at h
 | .bor d::rs,l,some (.dic x)::Γ,h=>by simp [fin] at h
 | .bor d::rs,l,some (.bor x)::Γ,h=>by
  rw [fin] at h
  cases e:fin rs Γ with
  | none=>rw [e] at h;cases h
  | some l' =>
   rw [e] at h;cases h
   obtain ⟨h1,h2⟩:=sr e
   refine ⟨by simp [h1],λi r er=>?_⟩
   cases i with
   | zero=>simp at er;subst er;exact .inr ⟨x,rfl,rfl⟩
   | succ i =>
    rcases h2 i r (by simpa using er) with ⟨d',e1,e2⟩ | ⟨ds,e1,e2⟩
    ·exact .inl ⟨d',e1,by simpa using e2⟩
    ·exact .inr ⟨ds,e1,by simpa using e2⟩
theorem getMap {α Y:Type}{f:α->Y}{l:List α}{i:Nat}{b:Y} (h:(l.map f)[i]?=some b):∃ a,l[i]?=some a/\b=f a:=by
 rw [getElem?_map] at h
 cases e:l[i]? with
 | none=>rw [e] at h;cases h
 | some a=>rw [e] at h;exact ⟨a,rfl,(Option.some.inj h).symm⟩
theorem oG {α:Type}{l:List α}{n i:Nat}{a:α} (h:(l.map some++replicate n (none:Option α))[i]?=some (some a)):l[i]?=some a:=by
 by_cases hi:i < (l.map some).length
 ·rw [getElem?_append_left hi] at h
  obtain ⟨b,e1,e2⟩:=getMap h
  cases e2;exact e1
 ·rw [List.getElem?_append_right (by omega),List.getElem?_replicate] at h
  split at h<;>cases h
section
variable {P:Program}{w:World}{K:PySem.W.Frag}{mg:Str->Option Value}{base:Heap}
theorem mH {x qual:Str}{st:Stmt}{f:Addr}{fd:FuncData}{N ps:List Str}{k:Nat} (F:Fun K x qual st f fd) (S:FnScope N ps (defScope st)) (g:M Fl)
  (hb:∀ (am:Value) (A:Around) (outer:List Env) (s:Shared) (H:Hp) (E:XK) (B:BB),Room k (A.deeper (envOfC qual (defScope st) s.heap.objs.size f am)) →
   SDs (cxOf CX0 P w K mg base N qual (defScope st) f am A outer s H E).nox B (defBody st) g):FnOk P w K mg base CX0 (k+1) f fd ps (spD K (fnD N.length ps.length g)):=by
 refine F.ok S (λvs H Q E h=>?_) (λam A outer s H vs Q E hr h=>?_)
 ·obtain ⟨_,_,rs,_,_,h1,_,h2,_⟩:=h
  unfold fnD at h2
  by_cases hc:rs.length=ps.length
  ·rw [← hc];simpa using h1.len
  ·rw [if_neg hc] at h2;cases h2
 ·obtain ⟨G,I,rs,r,aK,h2,h3,h4,h5⟩:=h
  have hl:vs.length=rs.length:=by simpa using h2.len
  refine ⟨_,hb am A outer s H E (λi=>(L2.start N vs)[i]?) hr,?_⟩
  unfold fnD at h4
  have hc:rs.length=ps.length:=by
   by_cases hc:rs.length=ps.length
   ·exact hc
   ·rw [if_neg hc] at h4;cases h4
  rw [if_pos hc] at h4
  unfold fnD1 at h4
  cases e1:g (rs.map some++replicate (N.length - rs.length) none) with
  | none=>rw [e1] at h4;cases h4
  | some q =>
   obtain ⟨fl,ac⟩:=q
   rw [e1] at h4
   dsimp only at h4
   cases e2:flR fl with
   | none=>rw [e2] at h4;cases h4
   | some rr =>
    rw [e2] at h4
    dsimp only at h4
    cases e3:fin rs ac with
    | none=>rw [e3] at h4;cases h4
    | some l =>
     rw [e3] at h4
     obtain ⟨rfl,rfl⟩:rr=r/\l=aK:=by cases h4;exact ⟨rfl,rfl⟩
     have eQ:∀ {i:Nat}{v:V},vs[i]?=some v->(L2.start N vs)[i]?=some (some v):=λ{i v} e=>by
      unfold L2.start
      rw [getElem?_append_left (by rw [length_map];exact (List.getElem?_eq_some_iff.mp e).1),getElem?_map,e];rfl
     have fW:∀ {i:Nat}{v:V},(L2.start N vs)[i]?=some (some v)->vs[i]?=some v:=λ{i v} e=>oG e
     have iD:Rep K (λi=>(L2.start N vs)[i]?) G I H (L2.start N vs) (rs.map some++replicate (N.length - rs.length) none):={
      iH:=h2.iH,gH:=h2.gH
      len:=by unfold L2.start;rw [length_append,length_append,length_map,length_map,length_replicate,length_replicate,hl]
      slot:=λi q e=>by
       have e':=oG e
       obtain ⟨v,e4,e5⟩:=h2.slot i q (by rw [getElem?_map,e'];rfl)
       obtain ⟨v',e6,e7⟩:=getMap e4
       cases e7
       exact ⟨v,eQ e6,e5⟩
      dist:=λi j q q' v e e' m m' s1 s2=>h2.dist i j q q' v (by rw [getElem?_map,oG e];rfl) (by rw [getElem?_map,oG e'];rfl) m m' (by rw [getElem?_map,fW s1];rfl) (by rw [getElem?_map,fW s2];rfl)
      bor:=λi ds e=>rfl }
     obtain ⟨f1,f2⟩:=sr e3
     -- behind the body
     have back:∀ {af:L2.St}{H' I':Hp},Rep K (λi=>(L2.start N vs)[i]?) G I' H' af ac->Grow G I I'->Rep K (vB vs) G I' H' (vs.map some) (l.map some):=λ{af H' I'} r' g'=>{
      iH:=r'.iH,gH:=r'.gH
      len:=by rw [length_map,length_map,f1,hl]
      slot:=λi q e=>by
       obtain ⟨q',e4,e5⟩:=getMap e
       cases e5
       rcases f2 i q e4 with ⟨d,rfl,e6⟩ | ⟨ds,rfl,e6⟩
       ·obtain ⟨v,e7,e8⟩:=h2.slot i (.val d) (by rw [getElem?_map,e6];rfl)
        exact ⟨v,e7,Is.mono g'.up e8⟩
       ·obtain ⟨v,e7,e8⟩:=r'.slot i _ e6
        have e9:=r'.bor i ds e6
        rw [e7] at e9
        exact ⟨v,by rw [getElem?_map,fW e9.symm];rfl,e8⟩
      dist:=λi j q q' v e e' m m' s1 s2=>by
       obtain ⟨_,e4,e5⟩:=getMap e
       cases e5
       obtain ⟨_,e6,e7⟩:=getMap e'
       cases e7
       rcases f2 i q e4 with ⟨d,rfl,_⟩ | ⟨ds,rfl,e8⟩
       ·cases m
       rcases f2 j q' e6 with ⟨d,rfl,_⟩ | ⟨iE,rfl,e9⟩
       ·cases m'
       obtain ⟨v1,a1,_⟩:=getMap s1
       obtain ⟨v2,a2,a3⟩:=getMap s2
       have b1:=r'.bor i ds e8
       have b2:=r'.bor j iE e9
       rename_i b3
       cases b3
       cases a3
       rw [eQ a1] at b1
       rw [eQ a2] at b2
       exact r'.dist i j _ _ v e8 e9 rfl rfl b1 b2
      bor:=λi ds e=>rfl }
     have ap:∀ {af:L2.St}{H' I':Hp}{p:Addr},Rep K (λi=>(L2.start N vs)[i]?) G I' H' af ac->Apart af ac p->Apart (vs.map some) (l.map some) p:=λ{af H' I' p} r' a i q e m z=>by
      obtain ⟨_,e4,e5⟩:=getMap e
      cases e5
      rcases f2 i q e4 with ⟨d,rfl,_⟩ | ⟨ds,rfl,e8⟩
      ·cases m
      obtain ⟨v1,a1,a2⟩:=getMap z
      cases a2
      exact a i _ e8 rfl ((r'.bor i ds e8).trans (eQ a1))
     refine ⟨G,I,_,fl,ac,iD,e1,λaf H' I' r' g'=>?_⟩
     cases fl with
     | nx=>cases e2;exact h5 _ H' I' (back r' g') g' (show Is K I' D.non V.non from Is.non)
     | bk=>cases e2
     | ct=>cases e2
     | rt r0 =>
      cases e2
      intro v hv
      refine h5 v H' I' (back r' g') g' ?_
      cases rr with
      | val d=>exact hv
      | bor d=>exact hv
      | fro d=>exact hv
      | dic d =>
       obtain ⟨p,xs,b1,b2,b3,b4,b5,b6⟩:=hv
       exact ⟨p,xs,b1,b2,b3,b4,ap r' b5,b6⟩
      | own d =>
       obtain ⟨p,xs,b1,b2,b3,b4,b5,b6⟩:=hv
       exact ⟨p,xs,b1,b2,b3,b4,ap r' b5,b6⟩
end
mutual
noncomputable def noL:D->Bool
 | .tup ds=>noLA ds
 | .lst _=>false
 | _=>true
noncomputable def noLA:List D->Bool
 | []=>true
 | d::ds=>noL d&&noLA ds
end
noncomputable def tupOf (I0 I:Hp):Hp:=λb=>match I0 b with
 | some o=>some o
 | none=>match I b with
  | some (.lst _)=>none
  | o=>o
theorem ub {I0 I:Hp}:Same I0 (tupOf I0 I):=λb o e=>by unfold tupOf;rw [e]
theorem sK {I0 I:Hp}{b:Addr}{o:HO} (h:tupOf I0 I b=some o):I0 b=some o\/(I0 b=none/\I b=some o/\∀ xs,o≠.lst xs):=by
 unfold tupOf at h
 cases e:I0 b with
 | some o'=>rw [e] at h;cases h;exact .inl rfl
 | none =>
  rw [e] at h
  cases e1:I b with
  | none=>rw [e1] at h;cases h
  | some o' =>
   rw [e1] at h
   cases o'<;>first | (cases h;exact .inr ⟨rfl,rfl,λxs z=>by cases z⟩) | cases h
theorem qh {I0 I:Hp} (s:Same I0 I){b:Addr}{o:HO} (h:I b=some o) (n:∀ xs,o≠.lst xs):tupOf I0 I b=some o:=by
 unfold tupOf
 cases e:I0 b with
 | some o'=>rw [s b o' e] at h;exact h
 | none =>
  simp only [h]
  split
  ·rename_i z
   cases z
   exact absurd rfl (n _)
  ·rfl
mutual
theorem Aj {K:PySem.W.Frag}{I0 I:Hp} (s:Same I0 I):∀ (d:D) (v:V),noL d=true->Is K I d v->Is K (tupOf I0 I) d v
 | .non,_,_,h=>by rw [Is] at h ⊢;exact h
 | .bl _,_,_,h=>by rw [Is] at h ⊢;exact h
 | .int _,_,_,h=>by rw [Is] at h ⊢;exact h
 | .str _,_,_,h=>by rw [Is] at h ⊢;exact h
 | .lst _,_,n,_=>by simp [noL] at n
 | .exc _ _,v,_,h=>by
  obtain ⟨a,d,rfl,h1,h2⟩:=qy h
  exact Is.exc (qh s h1 λxs z=>by cases z) λk z=>let ⟨dx,q1,q2⟩:=h2 k z;⟨dx,q1,qh s q2 λxs z=>by cases z⟩
 | .tup ds,v,n,h=>by
  rw [noL] at n
  obtain ⟨a,xs,rfl,h1,h2⟩:=mv h
  refine Is.tup ?_ (se s ds xs n h2)
  rcases h1 with (h1 | ⟨o,h1⟩) | h1
  ·exact .inl (.inl (qh s h1 λxs z=>by cases z))
  ·exact .inl (.inr ⟨o,qh s h1 λxs z=>by cases z⟩)
  ·exact .inr h1
theorem se {K:PySem.W.Frag}{I0 I:Hp} (s:Same I0 I):∀ (ds:List D) (xs:List V),noLA ds=true->IsA K I ds xs->IsA K (tupOf I0 I) ds xs
 | [],xs,_,h=>by rw [h.nil_inv];exact IsA.nil
 | d::ds,xs,n,h=>by
  rw [noLA,and_eq_true] at n
  obtain ⟨x,r,rfl,h1,h2⟩:=h.cons_inv
  exact IsA.cons (Aj s d x n.1 h1) (se s ds r n.2 h2)
end
section
variable {X:Cx}{B:BB}{e:Expr}{es:List Expr}{pos p:Pos}{x:Str}{k:Nat}{f:Addr}{fd:FuncData}{ps:List Str}{g:List R->Option (R×List R)}{t:M (List D)}
noncomputable def cvF (g:List R->Option (R×List R)) (ds:List D):Option D:=match g (ds.map .val) with
 | some (.val d,_)=>some d
 | some (.fro d,_)=>some (.lst d)
 | _=>none
noncomputable def coF (g:List R->Option (R×List R)) (ds:List D):Option (List D):=match g (ds.map .val) with
 | some (.own d,_)=>some d
 | some (.fro d,_)=>if noLA d=true then some d else none
 | _=>none
theorem pf {K:PySem.W.Frag}{G I H:Hp}{U:L2.St}{Γ:Gm}{ds:List D}{vs:List V} (r:Rep K B G I H U Γ) (h:IsA K I ds vs):Rep K (vB vs) H I H (vs.map some) ((ds.map R.val).map some) where
 iH:=r.iH
 gH:=Same.refl _
 len:=by rw [length_map,length_map,length_map,h.length]
 slot:=λi q e=>by
  obtain ⟨_,e1,e2⟩:=getMap e
  cases e2
  obtain ⟨d,e3,rfl⟩:=getMap e1
  obtain ⟨v,e4,e5⟩:=h.get e3
  exact ⟨v,by rw [getElem?_map,e4];rfl,e5⟩
 dist:=λi j q q' v e e' m=>by
  obtain ⟨_,e1,e2⟩:=getMap e
  cases e2
  obtain ⟨d,e3,rfl⟩:=getMap e1
  cases m
 bor:=λi ds e=>rfl
theorem oR (ds:List D):(ds.map R.val).all noOwn=true:=by
 induction ds with
 | nil=>rfl
 | cons d r ih=>rw [map_cons,all_cons,ih];rfl
theorem rC {K:PySem.W.Frag}{B':BB}{G I I' H H':Hp}{U af:L2.St}{Γ ac:Gm} (r:Rep K B G I H U Γ) (r':Rep K B' H I' H' af ac) (g':Grow H I I'):Rep K B G I' H' U Γ/\Grow G I I' :=
 ⟨r.ext g'.up r'.gH r'.iH g'.new,g'.up,λb o e=>(g'.new b o e).imp (λz=>z) λz=>r.gFree z⟩
theorem t_cv {K:PySem.W.Frag}{E:XK}:∀ U H Q,tD K B (fn1 (cvF g) t) U H Q->tCall (spD K g) [] E (tAD K B t) U H Q:=λU H Q q=>by
 obtain ⟨G,I,Γ,d,ac,r,e1,kk⟩:=q
 obtain ⟨ds,Γ1,e2,e3⟩:=i' e1
 obtain ⟨e4,rfl⟩:=mr e3
 refine ⟨G,I,Γ,ds,_,r,e2,λvs H1 I1 r1 g1 h1=>?_⟩
 show spD K g (vs++[]) H1 Q E
 rw [append_nil]
 unfold cvF at e4
 cases e5:g (ds.map .val) with
 | none=>rw [e5] at e4;cases e4
 | some q =>
  obtain ⟨rr,aK⟩:=q
  rw [e5] at e4
  cases rr with
  | val d' =>
   cases e4
   refine ⟨H1,I1,ds.map .val,.val d,aK,pf r1 h1,oR ds,e5,λv H' I' r' g' hv=>?_⟩
   obtain ⟨r2,g2⟩:=rC r1 r' g'
   exact kk v H' I' r2 (g1.trans g2) hv
  | fro d' =>
   cases e4
   refine ⟨H1,I1,ds.map .val,.fro d',aK,pf r1 h1,oR ds,e5,λv H' I' r' g' hv=>?_⟩
   obtain ⟨r2,g2⟩:=rC r1 r' g'
   obtain ⟨p,xs,rfl,f1,_,f3⟩:=hv
   exact kk _ H' I' r2 (g1.trans g2) (Is.lst (RdK.of f1) f3)
  | own _=>cases e4
  | bor _=>cases e4
  | dic _=>cases e4
theorem t_co {K:PySem.W.Frag}{E:XK}:∀ U H Q,tO K B (fn1 (coF g) t) U H Q->tCall (spD K g) [] E (tAD K B t) U H Q:=λU H Q q=>by
 obtain ⟨G,I,Γ,d,ac,r,e1,kk⟩:=q
 obtain ⟨ds,Γ1,e2,e3⟩:=i' e1
 obtain ⟨e4,rfl⟩:=mr e3
 refine ⟨G,I,Γ,ds,_,r,e2,λvs H1 I1 r1 g1 h1=>?_⟩
 show spD K g (vs++[]) H1 Q E
 rw [append_nil]
 unfold coF at e4
 cases e5:g (ds.map .val) with
 | none=>rw [e5] at e4;cases e4
 | some q =>
  obtain ⟨rr,aK⟩:=q
  rw [e5] at e4
  cases rr with
  | own d' =>
   cases e4
   refine ⟨H1,I1,ds.map .val,.own d,aK,pf r1 h1,oR ds,e5,λv H' I' r' g' hv=>?_⟩
   obtain ⟨r2,g2⟩:=rC r1 r' g'
   obtain ⟨q,xs,rfl,b2,b3,b4,b5,b6⟩:=hv
   exact kk q xs H' I' r2 (g1.trans g2) b2 b3 (r1.gFree b4) (r1.apart b4) b6
  | fro d' =>
   obtain ⟨nl,e4⟩:=my e4
   subst e4
   refine ⟨H1,I1,ds.map .val,.fro d,aK,pf r1 h1,oR ds,e5,λv H' I' r' g' hv=>?_⟩
   obtain ⟨p,xs,rfl,f1,f2,f3⟩:=hv
   have new:∀ b o,tupOf I1 I' b=some o->I1 b=some o\/H1 b=none:=λb o e=>by
    rcases sK e with z | ⟨_,z,_⟩
    ·exact .inl z
    ·exact g'.new b o z
   have r2:Rep K B G (tupOf I1 I') H' U _:=r1.ext ub r'.gH (λb o e=>by
    rcases sK e with z | ⟨_,z,_⟩
    ·exact r'.iH b o (g'.up b o z)
    ·exact r'.iH b o z) new
   refine kk p xs H' (tupOf I1 I') r2 (g1.trans ⟨ub,λb o e=>(new b o e).imp (λz=>z) λz=>r1.gFree z⟩) (r'.iH p _ f1) ?_ (r1.gFree f2) (r1.apart f2) (se g'.up _ _ nl f3)
   cases e:tupOf I1 I' p with
   | none=>rfl
   | some o =>
    rcases sK e with z | ⟨_,z,zn⟩
    ·rw [r1.iFree f2] at z;cases z
    ·rw [f1] at z;cases z;exact absurd rfl (zn _)
  | val _=>cases e4
  | bor _=>cases e4
  | dic _=>cases e4
variable {lA:Nat}{b:Expr}
theorem mC (F:FnOk X.prog X.w X.K X.mg X.base CX0 k f fd ps (spD X.K g)) (hr:Room k X.A) (hg:Gl X x) (hm:X.mg x=some (.ref f)) (hk:PySem.W.keepIn X.K (.ref f)=true) (hb:Binds X.K fd ps []) (ha:AD X B (e::es) t)
  (aM:(x == ("__debug__":Str))=false:=by decide) (he:starEach (e::es) X.env=(false,eval e X.env)::starEach es X.env:=by rfl) (az:(backTo pos (starEach es X.env)).any (·.1)=false:=by rfl) :
  ED X B (.Call (.Name x p) (e::es) [] pos) (fn1 (cvF g) t):=PE.imp (r8 F hr hg hm hk hb .nil pass0 ha aM he az) t_cv
theorem mY (F:FnOk X.prog X.w X.K X.mg X.base CX0 k f fd ps (spD X.K g)) (hr:Room k X.A) (hg:Gl X x) (hm:X.mg x=some (.ref f)) (hk:PySem.W.keepIn X.K (.ref f)=true) (hb:Binds X.K fd ps []) (ha:AD X B (e::es) t)
  (aM:(x == ("__debug__":Str))=false:=by decide) (he:starEach (e::es) X.env=(false,eval e X.env)::starEach es X.env:=by rfl) (az:(backTo pos (starEach es X.env)).any (·.1)=false:=by rfl) :
  EO X B (.Call (.Name x p) (e::es) [] pos) (fn1 (coF g) t):=PE.imp (r8 F hr hg hm hk hb .nil pass0 ha aM he az) t_co
noncomputable def hide (H:Hp) (p:Addr):Hp:=λb=>if b=p then none else H b
theorem tz {H:Hp}{p:Addr}:hide H p p=none:=by unfold hide;rw [if_pos rfl]
theorem og {H:Hp}{p b:Addr} (h:b≠p):hide H p b=H b:=by unfold hide;rw [if_neg h]
theorem yZ {H:Hp}{p:Addr}:Same (hide H p) H:=λb o e=>by
 by_cases h:b=p
 ·subst h;rw [tz] at e;cases e
 ·rw [og h] at e;exact e
noncomputable def bcF (g:List R->Option (R×List R)) (c ds:List D):Option (R×List D):=match g (.bor c::ds.map .val) with
 | some (r,.bor c'::_)=>some (r,c')
 | _=>none
noncomputable def callB (i:Nat) (g:List R->Option (R×List R)) (t:M (List D)):M R:=mutS i (bnd t λds=>λΓ1=>match Γ1[i]? with
 | some (some (.own c))=>match bcF g c ds with
  | some (r,c')=>some (r,Γ1.set i (some (.own c')))
  | none=>none
 | some (some (.bor c))=>match bcF g c ds with
  | some (r,c')=>some (r,Γ1.set i (some (.bor c')))
  | none=>none
 | _=>none)
noncomputable def asV (r:R):Option D:=match r with
 | .val d=>some d
 | _=>none
noncomputable def asO (r:R):Option (List D):=match r with
 | .own d=>some d
 | _=>none
noncomputable def cbV (i:Nat) (g:List R->Option (R×List R)) (t:M (List D)):M D:=bnd (callB i g t) λr=>lft (asV r)
theorem Rep.extBut {K:PySem.W.Frag}{G I I' H H':Hp}{U:L2.St}{Γ:Gm} (r:Rep K B G I H U Γ){q:Addr} (ap:Apart U Γ q) (gq:G q=none) (iq:I q=none) (lB:I' q=none) (hI:Same I I') (hH:∀ b o,H b=some o->b≠q->H' b=some o) (iH:Same I' H')
  (new:∀ b o,I' b=some o->I b=some o\/H b=none\/b=q):Rep K B G I' H' U Γ where
 iH:=iH
 gH:=λb o e=>hH b o (r.gH b o e) (λz=>by subst z;rw [gq] at e;cases e)
 len:=r.len
 slot:=λi qr e=>by
  obtain ⟨v,e1,e2⟩:=r.slot i qr e
  refine ⟨v,e1,?_⟩
  have mt:qr.ptr=true->∀ ds,Mt K G I H ds v->Mt K G I' H' ds v:=λm ds h=>by
   obtain ⟨p2,xs,h1,h2,h3,h4,h5⟩:=h
   have ne:p2≠q:=λz=>ap i qr e m (by rw [e1,h1,z])
   refine ⟨p2,xs,h1,hH _ _ h2 ne,?_,h4,h5.mono hI⟩
   cases z:I' p2 with
   | none=>rfl
   | some o =>
    rcases new p2 o z with z1 | z1 | z1
    ·rw [h3] at z1;cases z1
    ·rw [h2] at z1;cases z1
    ·exact absurd z1 ne
  cases qr with
  | val d=>exact Is.mono hI e2
  | dic ds =>
   obtain ⟨p2,xs,h1,h2,h3,h4,h5⟩:=e2
   have ne:p2≠q:=λz=>ap i _ e rfl (by rw [e1,h1,z])
   refine ⟨p2,xs,h1,hH _ _ h2 ne,?_,h4,h5.mono hI⟩
   cases z:I' p2 with
   | none=>rfl
   | some o =>
    rcases new p2 o z with z1 | z1 | z1
    ·rw [h3] at z1;cases z1
    ·rw [h2] at z1;cases z1
    ·exact absurd z1 ne
  | own ds=>exact mt rfl ds e2
  | bor ds=>exact mt rfl ds e2
  | fro ds=>obtain ⟨p,xs,f1,f2,f3,f4⟩:=e2;exact ⟨p,xs,f1,hI _ _ f2,f3,f4.mono hI⟩
 dist:=r.dist
 bor:=r.bor
theorem borrow {K:PySem.W.Frag}{G I H:Hp}{U:L2.St}{Γ:Gm}{i:Nat}{q q':R}{c c' ds:List D}{rr:R}{ws:List V}{Q:VK}{E:XK} (r:Rep K B G I H U Γ) (hq:Γ[i]?=some (some q)) (hc:(q=.own c/\q'=.own c')\/(q=.bor c/\q'=.bor c')) (hd:IsA K I ds ws){v0:V} (dS:U[i]?=some (some v0))
  (hg:bcF g c ds=some (rr,c')) (k:∀ v H' I',Rep K B G I' H' U (Γ.set i (some q'))->Grow G I I'->ResOk K G I' H' U (Γ.set i (some q')) rr v->Q v H'):spD K g (v0::ws) H Q E:=by
 obtain ⟨v,e1,e2⟩:=r.slot i q hq
 rw [dS] at e1
 cases e1
 have hm:q.ptr=true:=by rcases hc with ⟨rfl,_⟩ | ⟨rfl,_⟩<;>rfl
 have mt:Mt K G I H c v0:=by rcases hc with ⟨rfl,_⟩ | ⟨rfl,_⟩<;>exact e2
 obtain ⟨a,xs,rfl,h1,h2,h3,h4⟩:=mt
 unfold bcF at hg
 cases e3:g (.bor c::ds.map .val) with
 | none=>rw [e3] at hg;cases hg
 | some z =>
  obtain ⟨r0,aK⟩:=z
  rw [e3] at hg
  cases aK with
  | nil=>cases hg
  | cons y aK =>
   cases y with
   | val _=>cases hg
   | own _=>cases hg
   | fro _=>cases hg
   | dic _=>cases hg
   | bor c2 =>
    cases hg
    refine ⟨hide H a,I,.bor c::ds.map .val,rr,.bor c'::aK,?_,by rw [all_cons,oR];rfl,e3,λv H' I' r' g' hv=>?_⟩
    ·have rv:=pf r hd
     exact {
      iH:=r.iH,gH:=yZ
      len:=by rw [map_cons,map_cons,length_cons,length_cons,rv.len]
      slot:=λj qr e=>by
       cases j with
       | zero=>cases e;exact ⟨_,rfl,a,xs,rfl,h1,h2,tz,h4⟩
       | succ j =>
        obtain ⟨w,e4,e5⟩:=rv.slot j qr (by simpa using e)
        refine ⟨w,by simpa using e4,?_⟩
        have e9:((ds.map R.val).map some)[j]?=some (some qr):=e
        obtain ⟨z,f1,f2⟩:=getMap e9
        cases f2
        obtain ⟨d,f3,rfl⟩:=getMap f1
        exact e5
      dist:=λj l qr lC w e e' m m' s1 s2=>by
       have only:∀ {j:Nat}{qr:R},((R.bor c::ds.map R.val).map some)[j]?=some (some qr)->qr.ptr=true->j=0:=λ{j qr} e m=>by
        cases j with
        | zero=>rfl
        | succ j =>
         have e9:((ds.map R.val).map some)[j]?=some (some qr):=e
         obtain ⟨z,f1,f2⟩:=getMap e9
         cases f2
         obtain ⟨d,f3,rfl⟩:=getMap f1
         cases m
       rw [only e m,only e' m']
      bor:=λj es e=>rfl }
    ·obtain ⟨w,e4,e5⟩:=r'.slot 0 (.bor c') rfl
     cases e4
     obtain ⟨a',aV,e6,f1,f2,f3,f4⟩:=e5
     cases e6
     have cP:Apart U (Γ.set i none) a:=λj r1 z m s=>by
      rcases mz z with ⟨_,z',_⟩ | ⟨n,z'⟩
      ·cases z'
      ·exact n (r.dist j i r1 q _ z' hq m hm s dS)
     have r1:=(r.forget i).extBut (q:=a) cP h3 h2 f2 g'.up (λb o e n=>r'.gH b o (by rw [og n];exact e)) r'.iH (λb o e=>by
      rcases g'.new b o e with z | z
      ·exact .inl z
      ·by_cases n:b=a
       ·exact .inr (.inr n)
       ·rw [og n] at z;exact .inr (.inl z))
     have r2:=r1.learn (i:=i) (q:=q') (v:=.ref a) dS (by rcases hc with ⟨_,rfl⟩ | ⟨_,rfl⟩<;>exact ⟨a,aV,rfl,f1,f2,h3,f4⟩) (λm p2 e j r' n z m' s=>by
      cases e
      exact cP j r' z m' s) (λes z=>by
      rcases hc with ⟨_,rfl⟩ | ⟨rfl,rfl⟩
      ·cases z
      ·exact r.bor i c hq)
     rw [set_set] at r2
     have g2:Grow G I I':=⟨g'.up,λb o e=>by
      rcases g'.new b o e with z | z
      ·exact .inl z
      ·by_cases n:b=a
       ·subst n;exact .inr h3
       ·rw [og n] at z;exact .inr (r.gFree z)⟩
     refine k v H' I' r2 g2 ?_
     cases rr with
     | val d=>exact hv
     | bor d=>exact hv
     | fro d =>
      obtain ⟨p2,ys,b1,b2,b3,b4⟩:=hv
      have ne:p2≠a:=λz=>by rw [z,f2] at b2;cases b2
      rw [og ne] at b3
      exact ⟨p2,ys,b1,b2,r.gFree b3,b4⟩
     | dic d =>
      obtain ⟨p2,ys,b1,b2,b3,b4,b5,b6⟩:=hv
      have ne:p2≠a:=λz=>b5 0 (.bor c') rfl rfl (by rw [z];rfl)
      rw [og ne] at b4
      refine ⟨p2,ys,b1,b2,b3,r.gFree b4,λj r3 z m s=>?_,b6⟩
      rcases mz z with ⟨rfl,z',_⟩ | ⟨n,z'⟩
      ·rw [dS] at s;cases s;exact ne rfl
      ·exact r.apart b4 j r3 z' m s
     | own d =>
      obtain ⟨p2,ys,b1,b2,b3,b4,b5,b6⟩:=hv
      have ne:p2≠a:=λz=>b5 0 (.bor c') rfl rfl (by rw [z];rfl)
      rw [og ne] at b4
      refine ⟨p2,ys,b1,b2,b3,r.gFree b4,λj r3 z m s=>?_,b6⟩
      rcases mz z with ⟨rfl,z',_⟩ | ⟨n,z'⟩
      ·rw [dS] at s;cases s;exact ne rfl
      ·exact r.apart b4 j r3 z' m s
theorem wo {i:Nat}{t:M (List D)}{Γ ac:Gm}{rr:R} (h:callB i g t Γ=some (rr,ac)):isMut Γ i=true/\∃ ds Γ1 q q' c c',t Γ=some (ds,Γ1)/\Γ1[i]?=some (some q)/\((q=.own c/\q'=.own c')\/(q=.bor c/\q'=.bor c'))/\bcF g c ds=some (rr,c')/\ac=Γ1.set i (some q'):=by
 obtain ⟨hm,h⟩:=ou h
 obtain ⟨ds,Γ1,e1,e2⟩:=i' h
 refine ⟨hm,ds,Γ1,?_⟩
 cases e:Γ1[i]? with
 | none=>simp only [e] at e2;cases e2
 | some o =>
  cases o with
  | none=>simp only [e] at e2;cases e2
  | some q =>
   cases q with
   | val d=>simp only [e] at e2;cases e2
   | fro d=>simp only [e] at e2;cases e2
   | dic d=>simp only [e] at e2;cases e2
   | own c =>
    simp only [e] at e2
    cases e3:bcF g c ds with
    | none=>simp only [e3] at e2;cases e2
    | some z =>
     obtain ⟨r0,c'⟩:=z
     simp only [e3] at e2
     cases e2
     exact ⟨.own c,.own c',c,c',e1,rfl,.inl ⟨rfl,rfl⟩,e3,rfl⟩
   | bor c =>
    simp only [e] at e2
    cases e3:bcF g c ds with
    | none=>simp only [e3] at e2;cases e2
    | some z =>
     obtain ⟨r0,c'⟩:=z
     simp only [e3] at e2
     cases e2
     exact ⟨.bor c,.bor c',c,c',e1,rfl,.inr ⟨rfl,rfl⟩,e3,rfl⟩
theorem Ba {K:PySem.W.Frag}{E:XK}{i:Nat}:∀ U H Q,tD K B (cbV i g t) U H Q->tCall (spD K g) [] E (tCons (tVar i) (tAD K B t)) U H Q:=λU H Q q=>by
 obtain ⟨G,I,Γ,d,ac,r,e1,kk⟩:=q
 obtain ⟨rr,lD,e2,e3⟩:=i' e1
 obtain ⟨e4,rfl⟩:=mr e3
 obtain ⟨hm,ds,Γ1,q,q',c,c',f1,f2,f3,f4,rfl⟩:=wo e2
 obtain ⟨a,xs,h1,h2⟩:=oo hm r
 refine ⟨_,h1,G,I,Γ,ds,Γ1,r,f1,λws H1 I1 r1 g1 hd=>?_⟩
 show spD K g ((.ref a::ws)++[]) H1 Q E
 rw [append_nil]
 refine borrow r1 f2 f3 hd h1 f4 λv H' I' r' g' hv=>?_
 cases rr with
 | val d'=>cases e4;exact kk v H' I' r' (g1.trans g') hv
 | own _=>cases e4
 | bor _=>cases e4
 | fro _=>cases e4
 | dic _=>cases e4
theorem nn {i:Nat}{y:Str}{py:Pos} (F:FnOk X.prog X.w X.K X.mg X.base CX0 k f fd ps (spD X.K g)) (hr:Room k X.A) (hg:Gl X x) (hm:X.mg x=some (.ref f)) (hk:PySem.W.keepIn X.K (.ref f)=true) (hb:Binds X.K fd ps []) (hv:PE X (.Name y py) (tVar i)) (ha:AD X B es t)
  (aM:(x == ("__debug__":Str))=false:=by decide) (he:starEach (.Name y py::es) X.env=(false,eval (.Name y py) X.env)::starEach es X.env:=by rfl) (az:(backTo pos (starEach es X.env)).any (·.1)=false:=by rfl) :
  ED X B (.Call (.Name x p) (.Name y py::es) [] pos) (cbV i g t):=PE.imp (r8 F hr hg hm hk hb .nil pass0 (mX hv ha he) aM he az) Ba
end
end DL
namespace DL
open PySem PySem.Spec PyProof.Rows L2
noncomputable def relab (sc bA:Scope):Scope:={ sc with names:=sc.names.map λ(n,k)=>if (k == .free&&bA.kind == .function&&bA.names.lookup n == some .cell) then (n,.cell) else (n,k) }
noncomputable def clo (cells:List (Str×Addr)):List (Str×NameKind)->List (Str×Addr)->List (Str×Addr)
 | [],ao=>ao
 | (n,k)::r,ao=>if k == .free then clo cells r ((n,(cells.lookup n).getD 0)::ao) else clo cells r ao
theorem u0 {env:Env} (f:Str×NameKind->List (Str×Addr)->Sem (ForInStep (List (Str×Addr))))
  (hf:∀ name kind cs,f (name,kind) cs=if kind == .free then (do let a ← cellOf env name;pure (.yield ((name,a)::cs))) else pure (.yield cs)) :
  ∀ (names:List (Str×NameKind)) (ao:List (Str×Addr)),(∀ n,(n,NameKind.free)∈names->∃ c,env.cells.lookup n=some c)->(forIn names ao f:Sem _)=pure (clo env.cells names ao)
 | [],ao,_=>by rw [List.forIn_nil];rfl
 | (n,k)::r,ao,h=>by
  rw [forIn_cons,hf]
  unfold clo
  have ih:=λiF=>u0 f hf r iF (λn hn=>h n (mem_cons_of_mem _ hn))
  by_cases hk:(k == NameKind.free)=true
  ·rw [if_pos hk,if_pos hk]
   have fX:k=.free:=by simpa using hk
   subst fX
   obtain ⟨c,hc⟩:=h n mem_cons_self
   have e:cellOf env n=pure c:=by unfold cellOf;rw [hc]
   rw [e,hc]
   simp only [pure_bind,Option.getD_some]
   exact ih _
  ·rw [if_neg hk,if_neg hk]
   simp only [pure_bind]
   exact ih _
theorem uN {scope:Scope}{env:Env} (h:∀ n,(n,NameKind.free)∈scope.names->∃ c,env.cells.lookup n=some c):closureFor scope env=pure (clo env.cells scope.names []):=by
 unfold closureFor
 dsimp only
 rw [u0 (env:=env) _ (λname kind cs=>by cases hk:kind == NameKind.free<;>simp [hk]) scope.names [] h]
 rfl
theorem qo {cells:List (Str×Addr)}:∀ {names:List (Str×NameKind)}{ao:List (Str×Addr)}{x:Str}{c:Addr},(x,c)∈clo cells names ao->(x,c)∈ao\/((x,NameKind.free)∈names/\c=(cells.lookup x).getD 0)
 | [],ao,x,c,h=>.inl h
 | (n,k)::r,ao,x,c,h=>by
  unfold clo at h
  by_cases hk:(k == NameKind.free)=true
  ·rw [if_pos hk] at h
   have fX:k=.free:=by simpa using hk
   subst fX
   rcases qo h with z | ⟨z1,z2⟩
   ·rcases mem_cons.mp z with z | z
    ·cases z;exact .inr ⟨mem_cons_self,rfl⟩
    ·exact .inl z
   ·exact .inr ⟨mem_cons_of_mem _ z1,z2⟩
  ·rw [if_neg hk] at h
   rcases qo h with z | ⟨z1,z2⟩
   ·exact .inl z
   ·exact .inr ⟨mem_cons_of_mem _ z1,z2⟩
theorem qW {cells:List (Str×Addr)}:∀ {names:List (Str×NameKind)}{ao:List (Str×Addr)}{x:Str},((x,NameKind.free)∈names\/∃ c,ao.lookup x=some c)->∃ c,(clo cells names ao).lookup x=some c
 | [],ao,x,h=>by
  rcases h with h | h
  ·cases h
  ·exact h
 | (n,k)::r,ao,x,h=>by
  unfold clo
  have push:∀ c0:Addr,(∃ c,ao.lookup x=some c)->∃ c,((n,c0)::ao).lookup x=some c:=λc0 ⟨c,hc⟩=>by
   rw [List.lookup_cons]
   cases x == n
   ·exact ⟨c,hc⟩
   ·exact ⟨c0,rfl⟩
  by_cases hk:(k == NameKind.free)=true
  ·rw [if_pos hk]
   refine qW ?_
   rcases h with h | h
   ·rcases mem_cons.mp h with z | z
    ·cases z
     exact .inr ⟨_,by rw [List.lookup_cons,beq_self_eq_true]⟩
    ·exact .inl z
   ·exact .inr (push _ h)
  ·rw [if_neg hk]
   refine qW ?_
   rcases h with h | h
   ·rcases mem_cons.mp h with z | z
    ·cases z;exact absurd (by rfl) hk
    ·exact .inl z
   ·exact .inr h
structure CompScope (bA sc:Scope) (N N':List Str) (m:Nat):Prop where
 kind:sc.kind=.function
 nocell:∀ y∈sc.names,y.2≠.cell
 locals:∀ y∈sc.names,y.2=.local->sc.names.lookup y.1=some .local
 free:∀ y∈sc.names,y.2=.free->bA.names.lookup y.1=some .cell\/bA.names.lookup y.1=some .free
 nd:N'.Nodup
 len:N'.length=m+N.length
 up:∀ p∈(N'.drop m).zip N,((relab sc bA).names.lookup p.1=none)\/(p.1=p.2/\(relab sc bA).names.lookup p.1≠some .local)
noncomputable def cxC (X:Cx) (scope:Scope) (N':List Str) (C:Addr) (s:Shared) (H:Hp) (ex:List Addr):Cx :=
 { X with N:=N',s₀:=s,H₀:=H,env:=compEnvC scope (clo X.env.cells scope.names []) C X.env,outer:=X.stack,stack:=X.stack,ex:=ex,fn:=λ_=>false,pn:=[],xe:=λ_ _=>False }
def PTs (X:Cx) (aN:List Expr) (t:TT):Prop :=
 ∀ (aa:List (Addr×Obj)) (s:Shared) (U:L2.St) (H:Hp) (Q:Bool->Hp->Prop),Inv X aa U H s->t U H Q →
  wpAny (model X.prog X.w) X.A (forIn aN true λc r=>if r=true then do let ok ← isTrue c X.env (eval c X.env);pure (yield ok) else pure (yield r)) (TP X aa U Q) X.xe s
theorem Ai {X:Cx}:PTs X [] (λ_ H Q=>Q true H):=λaa s U H Q I h=>wpAny_tests_nil ⟨H,I,h⟩
theorem yF {X:Cx}{c:Expr}{t:TT} (h:PT X c t):PTs X [c] t:=λaa s U H Q I q=>wpAny_tests_one (h aa s U H Q I q)
abbrev calm (P:Program) (w:World) (A:Around){α:Type} (m:Sem α) (Q:α->Shared->Prop) (s:Shared):Prop:=wpAny (model P w) A m Q (λ_ _=>False) s
theorem calm.on {P:Program}{w:World}{A:Around}{α Y:Type}{m:Sem α}{f:α->Sem Y}{Q:α->Shared->Prop}{K:Y->Shared->Prop}{E:Value->Shared->Prop}{s:Shared} (h:calm P w A m Q s) (k:∀ a s',Q a s'->wpAny (model P w) A (f a) K E s'):wpAny (model P w) A (m >>= f) K E s :=
 wpAny_bind (wpAny_mono h k λ_ _ no=>no.elim)
def TurnMeets (P:Program) (w:World) (A:Around) (bC eR:Value) (tg aR:Expr) (aN:List Expr) (env:Env) (Er:Value->Shared->Prop) (again bi:Shared->Prop) (s:Shared):Prop :=
 calm P w A (pyNext bC) (λcQ s=>match cQ with
  | none=>bi s
  | some v=>calm P w A (letOwnedTupleGo tg bC v) (λ_ s=>calm P w A (assign tg env v) (λ_ s =>
    calm P w A (forIn aN true λc r=>if r=true then do let ok ← isTrue c env (eval c env);pure (yield ok) else pure (yield r)) (λfY s =>
     cond fY (wpAny (model P w) A (eval aR env) (λx s=>calm P w A (call (.builtin "list.append") [eR,x]) (λ_ s=>again s) s) (notedBy (model P w) A env Er) s) (again s)) s) s) s) s
theorem Av {M:Model}{A:Around}{env:Env}{E E':Value->Shared->Prop}{x:Value}{s:Shared} (h:notedBy M A env E x s) (f:∀ x s,E x s->E' x s):notedBy M A env E' x s:=wpAny_mono h (λ_ _ q=>f _ _ q) f
theorem Bm {P:Program}{w:World}{A:Around}{bi:Result->Shared->Prop}{s:Shared}{aR tg fZ:Expr}{aN:List Expr}{sc:Scope}{bc:Pos}{bC eR:Value}{env:Env}{Er:Value->Shared->Prop} (jI:∀ x s,Er x s->bi (.error x) s) (W:Nat->Shared->Prop)
  (iG:∀ left s,W left s->TurnMeets P w A bC eR tg aR aN env Er (λs'=>∃ less,less < left/\W less s') (bi (.ok .next)) s) (left:Nat) (start:W left s) :
  codeAny (model P w) A (.compLoop (.ListComp aR [⟨tg,fZ,aN,0⟩] sc bc) 0 bC eR env) bi s:=by
 refine codeAny_loop rfl W (λleft s bH=>?_) left start
 have turn:=iG left s bH
 unfold TurnMeets at turn
 refine wpAny_noted ?_
 rw [compTurn_list]
 refine wpAny_bind (wpAny_standAt (turn.on λcQ s1 h1=>?_))
 cases cQ with
 | none=>exact wpAny_pure h1
 | some v=>exact calm.on h1 λ_ _ h2=>calm.on h2 λ_ _ h3=>calm.on h3 λfY s4 h4=>match fY,h4 with
  | false,h4=>wpAny_pure (And.intro rfl h4)
  | true,h4=>wpAny_bind (wpAny_bind (wpAny_mono h4 (λ_ _ h5=>calm.on h5 λ_ _ h6=>wpAny_pure (wpAny_pure (And.intro rfl h6))) λ_ _ z=>Av z jI))
def Clear (X:Cx) (aa:List (Addr×Obj)) (H:Hp) (C:Addr):Prop:=H C=none/\C≠X.env.locals/\X.s₀.heap.objs.size<=C/\(∀ x c,X.env.cells.lookup x=some c->c≠C)/\∀ p∈X.pn++aa,p.1≠C
theorem Inv.clear {X:Cx}{aa:List (Addr×Obj)}{U:L2.St}{H:Hp}{s:Shared}{h':Heap}{C:Addr} (I:Inv X aa U H s) (c:Clear X aa H C) (hs:Heap.SameBut C s.heap h'):Inv X aa U H { s with heap:=h' } :=
 I.turned (t':=s.toks) (λb o hb e=>(hs.2 b hb).trans e) c.1 c.2.1 (.inr c.2.2.1) c.2.2.2.1 c.2.2.2.2
structure Within (X:Cx) (aa:List (Addr×Obj)) (U:L2.St) (X1:Cx):Prop where
 back:∀ {ps:List (Addr×Obj)}{af:L2.St}{H':Hp}{s':Shared},Inv X1 ps af H' s'->Inv X aa U H' s'/\Clear X aa H' X1.env.locals
 old:∀ b o,X.s₀.heap.get? b=some o->b∉X.ex->∃ o',X1.s₀.heap.get? b=some o'/\b∉X1.ex
 pin:∀ p∈X.pn++aa,∃ o',X1.s₀.heap.get? p.1=some o'/\p.1∉X1.ex
def CompW (m:Nat) (J:It) (g:TG) (tt:TT) (te:TE) (U:L2.St) (H1:Hp) (p:Addr) (Q:VK):Prop :=
 ∃ W:Nat->Nat->L2.St->Hp->Prop,(∃ n,W 0 n (replicate m none++U) (upd H1 p (.lst [])))/\∀ i n af H',W i n af H' →
  (J.stop i H'/\Q (.ref p) H')\/(J.go i H'/\∀ x H2,J.yld i H' x H2->g x af H2 λaL H3=>tt aL H3 λb H4 =>
   if b=true then te aL H4 λy H5=>∃ ao,H5 p=some (.lst ao)/\ao.length < sizeLine/\∃ n',n' < n/\W (i+1) n' aL (upd H5 p (.lst (ao++[y])))
   else ∃ n',n' < n/\W (i+1) n' aL H4)
section
variable {X:Cx}{tg aR iter:Expr}{aN:List Expr}{scope:Scope}{pos:Pos}{N':List Str}{m:Nat}{g:TG}{tt:TT}{te:TE}
theorem ve {Er:Addr->Value->Shared->Prop}{aa:List (Addr×Obj)}{U:L2.St}{H2:Hp}{s2:Shared}{it:Addr}{fp:List Addr}{tn:Nat->Heap->Prop}{J:It}{Q:VK}{E:Value->Shared->Prop} (S:CompScope X.env.scope scope X.N N' m) (hc:X.calm=true)
  (hg:∀ C s H ex,PG (cxC X scope N' C s H ex) tg g) (ht:∀ C s H ex,PTs (cxC X scope N' C s H ex) aN tt) (he:∀ C s H ex,Within X aa U (cxC X scope N' C s H ex)->PE ((cxC X scope N' C s H ex).wish (notedBy (model X.prog X.w) X.A (compEnvC scope (clo X.env.cells scope.names []) C X.env) (Er C))) aR te)
  (I2:Inv X aa U H2 s2) (T:Turn X.prog X.w X.K tg J fp it tn) (cr:tn 0 s2.heap) (f2:∀ b∈fp,FpOk X aa H2 b) (hw:∀ p,H2 p=none->CompW m J g tt te U H2 p Q) :
  wpAny (model X.prog X.w) X.A (newList []) (λao s3=>wpAny (model X.prog X.w) X.A (newFunctionEnv scope X.env.globals (clo X.env.cells scope.names []) [] X.env.qual none .none (some X.env)) (λbI s4 =>
   codeAny (model X.prog X.w) X.A (.compStart (.ListComp aR [⟨tg,iter,aN,0⟩] scope pos) 0 (.ref it) ao { bI with scope:=relabel scope X.env })
    (λr s'=>match r with | .ok _=>∃ p H' mm,ao=.ref p/\s'.heap.Ns bI.locals mm/\Inv X aa U H' s'/\Clear X aa H' bI.locals/\Q (.ref p) H' | .error x=>Er bI.locals x s') s4) E s3) E s2:=by
 refine wpAny_newObj_type (wpAny_newFunctionEnv S.nocell (by intro y hy;simp at hy) (λh1 fB fC=>?_) S.kind)
 dsimp only at fB fC ⊢
 -- the new list
 have hp:H2 s2.heap.objs.size=none:=I2.hok.fresh (le_refl _)
 obtain ⟨W,⟨n0,w0⟩,turn⟩:=hw _ hp
 obtain ⟨p,hP⟩:∃ p,p=s2.heap.objs.size:=⟨_,rfl⟩
 obtain ⟨s3,ge⟩:∃ s3:Shared,s3={ s2 with heap:=s2.heap.push { cls:=.type "list", dict:=none,data:=.seq ([]:List Value).toArray } }:=⟨_,rfl⟩
 obtain ⟨C,hC⟩:∃ C,C=s3.heap.objs.size:=⟨_,rfl⟩
 obtain ⟨H3,gf⟩:∃ H3,H3=upd H2 p (.lst []):=⟨_,rfl⟩
 have h3:s3.heap=s2.heap.push { cls:=.type "list", dict:=none,data:=.seq ([]:List Value).toArray }:=by rw [ge]
 have dU:h1.Ns C (λx=>([]:List (Str×Value)).reverse.lookup x):=by rw [hC,h3];exact fB
 have jJ:Heap.SameBut C (s3.heap.push { cls:=.type "dict", data:=.dict #[] }) h1:=by rw [hC,h3];exact fC
 rw [← hP] at hp
 have jK:W 0 n0 (replicate m none++U) H3:=by rw [gf,hP];exact w0
 have gj:∀ i n af H',W i n af H'->(J.stop i H'/\Q (.ref p) H')\/(J.go i H'/\∀ x H2,J.yld i H' x H2->g x af H2 λaL H3=>tt aL H3 λb H4 =>
   if b=true then te aL H4 λy H5=>∃ ao,H5 p=some (.lst ao)/\ao.length < sizeLine/\∃ n',n' < n/\W (i+1) n' aL (upd H5 p (.lst (ao++[y])))
   else ∃ n',n' < n/\W (i+1) n' aL H4):=by rw [hP];exact turn
 have I3:Inv X aa U H3 s3:=by
  rw [gf,ge,hP]
  exact I2.laid (t':=s2.toks) (λb u e=>get?_push_of_some _ e) (le_refl _) ⟨zero_le _,[],0,.nil,get?_push_size _ rfl⟩
 have dg:tn 0 s3.heap:=T.keep _ _ _ cr λb _ o e=>by rw [h3];exact get?_push_of_some _ e
 have f3:∀ b∈fp,FpOk X aa H3 b:=λb hb=>by
  obtain ⟨a0,a1⟩:=f2 b hb
  refine ⟨?_,a1⟩
  obtain ⟨o,e,_⟩:=T.obj _ _ cr b hb
  have ne:b≠p:=λz=>by
   have:=lt_size e
   rw [← hP,z] at this
   exact lt_irrefl _ this
  rw [gf,ma ne];exact a0
 -- the block's context
 have aQ:∀ x c,(clo X.env.cells scope.names []).lookup x=some c->X.env.cells.lookup x=some c:=λx c e=>by
  rcases qo (mem_of_lookup e) with z | ⟨z1,z2⟩
  ·cases z
  ·obtain ⟨c',aX⟩:=I2.ok.has x (S.free _ z1 rfl)
   rw [aX] at z2
   rw [z2];exact aX
 have c6:Clear X aa H3 C:=by
  refine ⟨?_,?_,?_,λx c e z=>?_,λq hq z=>?_⟩
  ·exact I3.hok.fresh (Nat.le_of_eq hC.symm)
  ·have:=I3.lt;rw [← hC] at this;exact ne_of_gt this
  ·have:=I3.sz;rw [← hC] at this;exact this
  ·obtain ⟨v,q⟩:=I3.cell x c e
   have:=q.lt;rw [← hC,z] at this;exact lt_irrefl _ this
  ·have:=lt_size (I3.pin q hq).1
   rw [← hC,z] at this;exact lt_irrefl _ this
 have old:∀ b o,s3.heap.get? b=some o->h1.get? b=some o:=λb o e=>by
  have ne:b≠C:=λz=>by have:=lt_size e;rw [← hC,z] at this;exact lt_irrefl _ this
  exact (jJ.2 b ne).trans (get?_push_of_some _ e)
 have ok:(cxC X scope N' C s3 H3 fp).Ok:=by
  refine ⟨I3.ok.mod,S.kind,I3.ok.glob,I3.ok.blt,Nat.le_of_eq hC.symm,λx y c e1 e2=>I3.ok.inj x y c (aQ x c e1) (aQ y c e2),λx hx=>?_,λx c z=>(nomatch z),λz=>I3.ok.hd z,I3.ok.frames,.inl rfl,λb hb=>⟨λz=>?_,λx c e=>(f3 b hb).2.2.2.2.1 x c (aQ x c e)⟩,I3.bs,le_trans I3.ok.bsz I3.sz,λb o e hb=>?_,λb hb z=>?_,I3.stack,λb hb=>I3.stkFree b hb⟩
  ·-- has
   have cB:(relab scope X.env.scope).names.lookup x=some .cell\/(relab scope X.env.scope).names.lookup x=some .free:=hx
   have mem:∃ k,(x,k)∈(relab scope X.env.scope).names/\(k=NameKind.cell\/k=NameKind.free):=by
    rcases cB with z | z
    ·exact ⟨_,mem_of_lookup z,.inl rfl⟩
    ·exact ⟨_,mem_of_lookup z,.inr rfl⟩
   obtain ⟨k,hm,hk⟩:=mem
   obtain ⟨⟨n1,k1⟩,cR,e1⟩:=mem_map.mp hm
   refine qW (.inl ?_)
   dsimp only at e1
   by_cases hcond:(k1 == NameKind.free&&X.env.scope.kind == ScopeKind.function&&X.env.scope.names.lookup n1 == some NameKind.cell)=true
   ·rw [if_pos hcond] at e1
    cases e1
    have:k1=.free:=by
     simp only [and_eq_true,beq_iff_eq] at hcond
     exact hcond.1.1
    rw [← this];exact cR
   ·rw [if_neg hcond] at e1
    cases e1
    rcases hk with rfl | rfl
    ·exact absurd rfl (S.nocell _ cR)
    ·exact cR
  ·obtain ⟨o,e,_⟩:=T.obj _ _ dg b hb
   have:=lt_size e
   rw [← hC] at this
   have z':b=C:=z
   rw [z'] at this;exact lt_irrefl _ this
  ·obtain ⟨a0,a1,a2,a3,_⟩:=f3 b hb
   rcases a3 with z | z
   ·exact I3.ok.noex b o e z
   ·exact absurd (lt_of_lt_of_le (lt_size e) (le_trans I3.ok.bsz z)) (lt_irrefl _)
  ·have z':=I3.stkSub b z
   obtain ⟨a0,a1,a2,_⟩:=f3 b hb
   rcases mem_cons.mp z' with e | e
   ·exact a1 e
   ·exact a2 e
 -- the block's first state
 have I4:Inv (cxC X scope N' C s3 H3 fp) [] (replicate m none++U) H3 { s3 with heap:=h1,toks:=s3.toks+([]:List (Str×Value)).length }:=by
  obtain ⟨mo,lE,iz⟩:=I3.loc
  refine ⟨ok,rfl,I3.bare,Un.kept old,⟨_,dU,λi x v e1 e2 e3=>?_⟩,λx c e=>?_,c6.1,λx c e=>I3.freeC x c (aQ x c e),λq hq=>absurd (show q∈([]:List (Addr×Obj)) from hq) (by simp),I3.hok.kept old,?_⟩
  ·have hi:m<=i:=by
    by_cases z:m<=i
    ·exact z
    ·rw [getElem?_append_left (by rw [length_replicate];omega),List.getElem?_replicate] at e2
     split at e2<;>cases e2
   rw [List.getElem?_append_right (by rw [length_replicate];exact hi),length_replicate] at e2
   have eS:N'[i]?=some x:=e1
   have cN:i - m < X.N.length:=by
    have:=(List.getElem?_eq_some_iff.mp eS).1
    rw [S.len] at this
    omega
   have e4:(N'.drop m)[i - m]?=some x:=by rw [getElem?_drop];rw [show m+(i - m)=i from by omega];exact eS
   have e5:X.N[i - m]?=some X.N[i - m]:=getElem?_eq_getElem cN
   have e6:((N'.drop m).zip X.N)[i - m]?=some (x,X.N[i - m]):=by rw [List.getElem?_zip_eq_some];exact ⟨e4,e5⟩
   have iI:Vis (relab scope X.env.scope) x:=e3
   rcases S.up _ (mem_of_getElem? e6) with z | ⟨z1,z2⟩
   ·have z':(relab scope X.env.scope).names.lookup x=none:=z
    rcases iI with y | y | y<;>rw [z'] at y<;>cases y
   ·have jL:x=X.N[i - m]:=z1
    have jM:(relab scope X.env.scope).names.lookup x≠some .local:=z2
    have iJ:(relab scope X.env.scope).names.lookup x=some .cell\/(relab scope X.env.scope).names.lookup x=some .free:=by
     rcases iI with y | y | y
     ·exact absurd y jM
     ·exact .inl y
     ·exact .inr y
    obtain ⟨c,gm⟩:=ok.has x iJ
    have jN:=aQ x c gm
    -- the name in the def's own frame
    have mem:(x,NameKind.free)∈scope.names:=by
     rcases qo (mem_of_lookup gm) with y | ⟨y,_⟩
     ·cases y
     ·exact y
    have iK:Vis X.env.scope x:=by
     rcases S.free _ mem rfl with y | y
     ·exact .inr (.inl y)
     ·exact .inr (.inr y)
    obtain ⟨u,ru,l⟩:=iz (i - m) x v (by rw [e5,← jL]) e2 iK
    refine ⟨u,ru,.inr ⟨iJ,c,gm,?_⟩⟩
    rcases l with ⟨k,_⟩ | ⟨_,c',e',z'⟩
    ·have k':X.env.scope.names.lookup x=some .local:=k
     rcases S.free _ mem rfl with y | y<;>(have y':X.env.scope.names.lookup x=_:=y;rw [k'] at y';cases y')
    ·rw [jN] at e';cases e'
     exact z'.keeps old
  ·obtain ⟨v,q⟩:=I3.cell x c (aQ x c e)
   exact ⟨v,q.keeps old⟩
  ·show (replicate m none++U).length=N'.length
   rw [length_append,length_replicate,S.len,I3.len]
 have bN:∀ {H':Hp},(∀ b∈fp,H' b=none)->∀ b∈fp,FpOk (cxC X scope N' C s3 H3 fp) [] H' b:=λ{H'} hn b hb=>by
  refine ⟨hn b hb,(ok.exf b hb).1,ok.exfs b hb,.inl hb,(ok.exf b hb).2,λq hq=>absurd (show q∈([]:List (Addr×Obj)) from hq) (by simp)⟩
 -- what stands behind the block
 have back:∀ {ps:List (Addr×Obj)}{af:L2.St}{H':Hp}{s':Shared},Inv (cxC X scope N' C s3 H3 fp) ps af H' s'->Inv X aa U H' s'/\Clear X aa H' C:=λ{ps af H' s'} J'=>by
  refine ⟨I3.call' J'.os J'.base J'.hok J'.bare λb hb=>?_,J'.free,c6.2⟩
  obtain ⟨a0,a1,a2,a3,a4,a5⟩:=f3 b hb
  exact ⟨a3,a1,a4,a5⟩
 have eT:Within X aa U (cxC X scope N' C s3 H3 fp):=⟨back,λb o e n=>by
  obtain ⟨o',e'⟩:=I3.base.there b o e n
  refine ⟨o',e',λm=>?_⟩
  rcases (f3 b m).2.2.2.1 with z | z
  ·exact n z
  ·exact absurd (lt_of_lt_of_le (lt_size e) z) (lt_irrefl _),λq hq=>⟨_,(I3.pin q hq).1,λm=>(f3 q.1 m).2.2.2.2.2 q hq rfl⟩⟩
 have dG:∀ s4:Shared,s4={ s3 with heap:=h1,toks:=s3.toks+([]:List (Str×Value)).length } →
   codeAny (model X.prog X.w) X.A (.compLoop (.ListComp aR [⟨tg,iter,aN,0⟩] scope pos) 0 (.ref it) (.ref p) (compEnvC scope (clo X.env.cells scope.names []) C X.env))
    (λr s'=>match r with | .ok _=>∃ p' H' mm,Value.ref p=.ref p'/\s'.heap.Ns C mm/\Inv X aa U H' s'/\Clear X aa H' C/\Q (.ref p') H' | .error x=>Er C x s') s4:=by
  rintro s4 rfl
  refine Bm (Er:=Er C) (λ_ _ z=>z) (λn s'=>∃ i af H',Inv (cxC X scope N' C s3 H3 fp) [] af H' s'/\tn i s'.heap/\(∀ b∈fp,H' b=none)/\W i n af H') ?_ n0 ⟨0,_,_,I4,T.keep _ _ _ dg λb _ o e=>old b o e,λb hb=>(f3 b hb).1,jK⟩
  rintro n s5 ⟨i,cA,H5,I5,dh,eL,w5⟩
  show TurnMeets _ _ _ _ _ _ _ _ _ _ _ _ _
  unfold TurnMeets
  rcases gj i n cA H5 w5 with ⟨stop,qn⟩ | ⟨go,step⟩
  ·refine wpAny_mono (T.done (cxC X scope N' C s3 H3 fp) rfl rfl rfl hc i [] s5 cA H5 (λ_ _=>False) I5 (bN eL) dh stop) (λr s6 ⟨hr,I6⟩=>?_) λ_ _ z=>z
   subst hr
   obtain ⟨mm,jO,_⟩:=I6.loc
   obtain ⟨b1,b2⟩:=back I6
   exact ⟨p,H5,mm,rfl,jO,b1,b2,qn⟩
  ·refine wpAny_mono (T.item (cxC X scope N' C s3 H3 fp) rfl rfl rfl hc i [] s5 cA H5 (λ_ _=>False) I5 (bN eL) dh go) (λr s6 ⟨u,hr,h6⟩=>?_) λ_ _ z=>z
   subst hr
   refine wpAny_mono h6 (λ_ s7 ⟨x,H7,I7,r7,y7,gr,jP⟩=>?_) λ_ _ z=>z
   have jQ:=I7.pinned (bN jP) (T.obj _ _ gr)
   refine wpAny_mono (hg C s3 H3 fp _ s7 cA H7 x u _ jQ r7 (step x H7 y7)) (λ_ s8 ⟨dW,H8,I8,q8⟩=>?_) λ_ _ z=>z
   refine wpAny_mono (ht C s3 H3 fp _ s8 dW H8 _ I8 q8) (λok s9 ⟨H9,I9,q9⟩=>?_) λ_ _ z=>z
   have again:∀ {iL:L2.St}{Ha:Hp}{sa:Shared},Inv (cxC X scope N' C s3 H3 fp) ([]++pinsAt fp s7.heap) iL Ha sa->tn (i+1) sa.heap/\(∀ b∈fp,Ha b=none):=λ{iL Ha sa} Ia=>by
    refine ⟨T.keep _ _ _ gr λb hb o e=>(Ia.pin (b,o) (mem_append_right _ (mem_append_right _ (qB hb e)))).1,λb hb=>?_⟩
    obtain ⟨o,e,d⟩:=T.obj _ _ gr b hb
    exact (Ia.pin (b,o) (mem_append_right _ (mem_append_right _ (qB hb e)))).2.1
   cases ok with
   | false =>
    rw [if_neg Bool.false_ne_true] at q9
    obtain ⟨n',bW,w9⟩:=q9
    obtain ⟨a1,a2⟩:=again I9
    exact ⟨n',bW,i+1,dW,H9,I9.unpinned,a1,a2,w9⟩
   | true =>
    rw [if_pos rfl] at q9
    refine wpAny_mono (he C s3 H3 fp eT _ s9 dW H9 _ (I9.wish _) q9) (λxv jR ⟨y,iM,gw,jS,ao,iN,hl,n',bW,jT⟩=>?_) λ_ _ z=>z
    replace gw:=gw.unwish
    refine wpAny_mono (v5 (X:=cxC X scope N' C s3 H3 fp) _ jR dW iM (.ref p) [y] (.ref p) [xv] (λ_ H'=>H'=upd iM p (.lst (ao++[y]))) gw rfl (.cons jS .nil) ⟨p,ao,y,rfl,rfl,iN,hl,rfl⟩) (λ_ lF ⟨lG,lH,iO,_,jU⟩=>?_) λ_ _ z=>z
    subst jU
    obtain ⟨a1,a2⟩:=again iO
    exact ⟨n',bW,i+1,dW,_,iO.unpinned,a1,a2,jT⟩
 subst hC
 subst ge
 subst hP
 refine codeAny_compStart_list ?_ (T.self X.A 0 _ _ _ (T.keep _ _ _ dg λb _ o e=>old b o e) ?_)
 ·exact dG _ rfl
 ·exact dG _ rfl
end
section
variable {X:Cx}{tg aR iter:Expr}{aN:List Expr}{scope:Scope}{pos:Pos}{N':List Str}{m:Nat}{g:TG}{tt:TT}{te:TE}{wi:TI}
noncomputable def tComp (m:Nat) (wi:TI) (g:TG) (tt:TT) (te:TE):TE:=λU H Q=>wi U H λJ H1=>∀ p,H1 p=none->CompW m J g tt te U H1 p Q
theorem zm (S:CompScope X.env.scope scope X.N N' m) (hc:X.calm=true) (hi:PI X tg iter wi)
  (hg:∀ C s H ex,PG (cxC X scope N' C s H ex) tg g) (ht:∀ C s H ex,PTs (cxC X scope N' C s H ex) aN tt) (he:∀ C s H ex,PE (cxC X scope N' C s H ex) aR te)
  (hs:∀ x,foldedSetIterable iter X.env x=pure x:=by intro _;rfl):PE X (.ListComp aR [⟨tg,iter,aN,0⟩] scope pos) (tComp m wi g tt te):=by
 intro aa s U H Q I h
 rw [eval_ListComp]
 refine wpAny_comprehension_free (use:=none) rfl hs (uN λn hn=>I.ok.has n (S.free _ hn rfl)) S.kind S.locals (thn (hi aa s U H _ I h) λxv s1 h1=>thn h1 λeK s2 h2=>?_)
 obtain ⟨it,fp,tn,J,H2,e,I2,T,cr,f2,hw⟩:=h2
 subst e
 refine thn (ve (Er:=λ_ _ _=>False) (pos:=pos) (iter:=iter) S hc hg ht (λC s H ex _=>PE.nox (X:=(cxC X scope N' C s H ex).wish _) (he C s H ex)) I2 T cr f2 hw) λao s3 h3=>thn h3 λbI s4 h4=>codeAny_mono h4 λr s5 h5=>?_
 cases r with
 | error x=>exact h5.elim
 | ok fl =>
  obtain ⟨p,H5,mm,rfl,hn,I5,cl,q⟩:=h5
  exact ⟨mm,hn,λh' dm=>⟨.ref p,H5,Inv.clear I5 cl dm,rfl,q⟩⟩
theorem B5 {i:Nat}{y:Str}{py cC:Pos} (S:CompScope X.env.scope scope X.N N' m) (hc:X.calm=true) (hN:X.N.Nodup) (dk:X.N[i]?=some y) (hy:X.env.scope.names.lookup y=some .local) (hi:PI X tg iter wi)
  (hg:∀ C s H ex,PG (cxC X scope N' C s H ex) tg g) (ht:∀ C s H ex,PTs (cxC X scope N' C s H ex) aN tt) (he:∀ C s H ex,PE (cxC X scope N' C s H ex) aR te)
  (gy:swapsWith (.ListComp aR [⟨tg,iter,aN,0⟩] scope pos) (some (.Name y py)) cC.line X.env=pure true)
  (hs:∀ x,foldedSetIterable iter X.env x=pure x:=by intro _;rfl):PS X (.Assign [.Name y py] (.ListComp aR [⟨tg,iter,aN,0⟩] scope pos) cC) (tAsg (tComp m wi g tt te) (gName i)):=by
 intro aa s U H D I h
 rw [exec_Assign_Name_used _ _ _ _ gy]
 refine wpAny_bind (wpAny_standAt (wpAny_bind ?_))
 show wpAny _ X.A (do let _ ← comprehension (.ListComp aR [⟨tg,iter,aN,0⟩] scope pos) scope X.env _ (newList []) false (eval iter X.env) (some (assign (.Name y py) X.env))) _ _ s
 refine wpAny_bind (thn (wpAny_comprehension_free (use:=some (assign (.Name y py) X.env)) (Q:=λ_ s'=>SP X aa D .next s') rfl hs (uN λn hn=>I.ok.has n (S.free _ hn rfl)) S.kind S.locals
  (thn (hi aa s U H _ I h) λxv s1 h1=>thn h1 λeK s2 h2=>?_)) λ_ s' hq=>wpAny_pure (wpAny_pure hq))
 obtain ⟨it,fp,tn,J,H2,e,I2,T,cr,f2,hw⟩:=h2
 subst e
 refine thn (ve (Er:=λ_ _ _=>False) (pos:=pos) (iter:=iter) S hc hg ht (λC s H ex _=>PE.nox (X:=(cxC X scope N' C s H ex).wish _) (he C s H ex)) I2 T cr f2 hw) λao s3 h3=>thn h3 λbI s4 h4=>codeAny_mono h4 λr s5 h5=>?_
 cases r with
 | error x=>exact h5.elim
 | ok fl =>
  obtain ⟨p,H5,mm,rfl,hn,I5,cl,q⟩:=h5
  show wpAny _ X.A (assign (.Name y py) X.env (.ref p)) _ _ s5
  refine wpAny_assign_Name (tJ (v:=.ref p) I5 hN dk (.inl hy) rfl (λs6 I6 ⟨a,jV,ha⟩=>?_) (.inr hy))
  have de:bI.locals≠a:=by
   rcases ha with rfl | ha
   ·exact cl.2.1
   ·exact λz=>cl.2.2.2.1 y a ha z.symm
  refine ⟨mm,hn.sameBut jV de,λh' dm=>?_⟩
  have jW:Clear X aa H5 bI.locals:=cl
  exact ⟨_,H5,Inv.clear I6 jW dm,q⟩
end
noncomputable def inC {α:Type} (m:Nat) (g:M α):M α:=λΓ=>match g (replicate m none++Γ) with
 | some (a,ac)=>some (a,ac.drop m)
 | none=>none
noncomputable def compM (ay:D->M Unit) (ts:M Bool) (el:M D):List D->M (List D)
 | []=>ret []
 | d::ds=>bnd (ay d) λ_=>bnd ts λb=>if b then bnd el λx=>bnd (compM ay ts el ds) λr=>ret (x::r) else compM ay ts el ds
noncomputable def compO (m:Nat) (it:M (List D)) (ay:D->M Unit) (ts:M Bool) (el:M D):M (List D):=bnd it λds=>if ds.length<=lim then inC m (compM ay ts el ds) else λ_=>none
noncomputable def bUp (m:Nat) (B:BB):BB:=λi=>if i < m then none else B (i - m)
theorem z9 {α:Type}{m:Nat}{g:M α}{Γ ac:Gm}{a:α} (h:inC m g Γ=some (a,ac)):∃ Γ1,g (replicate m none++Γ)=some (a,Γ1)/\ac=Γ1.drop m:=by
 unfold inC at h
 cases e:g (replicate m none++Γ) with
 | none=>rw [e] at h;cases h
 | some q=>obtain ⟨b,Γ1⟩:=q;rw [e] at h;cases h;exact ⟨Γ1,rfl,rfl⟩
section
variable {K:PySem.W.Frag}{B:BB}{G I H:Hp}{U af:L2.St}{Γ ac:Gm}{m:Nat}
theorem oF {α:Type}{l:List (Option α)}{m i:Nat}{a:α} (h:(replicate m (none:Option α)++l)[i]?=some (some a)):m<=i/\l[i - m]?=some (some a):=by
 by_cases hi:m<=i
 ·rw [List.getElem?_append_right (by rw [length_replicate];exact hi),length_replicate] at h
  exact ⟨hi,h⟩
 ·rw [getElem?_append_left (by rw [length_replicate];omega),List.getElem?_replicate] at h
  split at h<;>cases h
theorem u9 {α:Type}{l:List (Option α)}{m i:Nat} (hi:m<=i):(replicate m (none:Option α)++l)[i]?=l[i - m]?:=by
 rw [List.getElem?_append_right (by rw [length_replicate];exact hi),length_replicate]
theorem Rep.up (r:Rep K B G I H U Γ) (m:Nat):Rep K (bUp m B) G I H (replicate m none++U) (replicate m none++Γ) where
 iH:=r.iH
 gH:=r.gH
 len:=by rw [length_append,length_append,length_replicate,length_replicate,r.len]
 slot:=λi q e=>by
  obtain ⟨hi,e1⟩:=oF e
  obtain ⟨v,e2,e3⟩:=r.slot _ q e1
  exact ⟨v,by rw [u9 hi];exact e2,e3⟩
 dist:=λi j q q' v e e' mm gz s1 s2=>by
  obtain ⟨hi,e1⟩:=oF e
  obtain ⟨hj,e2⟩:=oF e'
  have:=r.dist _ _ q q' v e1 e2 mm gz (oF s1).2 (oF s2).2
  omega
 bor:=λi ds e=>by
  obtain ⟨hi,e1⟩:=oF e
  rw [u9 hi,r.bor _ ds e1]
  unfold bUp
  rw [if_neg (by omega)]
theorem Rep.down (r:Rep K (bUp m B) G I H af ac) (hs:af.drop m=U):Rep K B G I H U (ac.drop m):=by
 subst hs
 exact {
  iH:=r.iH,gH:=r.gH
  len:=by rw [length_drop,length_drop,r.len]
  slot:=λi q e=>by
   rw [getElem?_drop] at e
   obtain ⟨v,e2,e3⟩:=r.slot _ q e
   exact ⟨v,by rw [getElem?_drop];exact e2,e3⟩
  dist:=λi j q q' v e e' mm gz s1 s2=>by
   rw [getElem?_drop] at e e' s1 s2
   have:=r.dist _ _ q q' v e e' mm gz s1 s2
   omega
  bor:=λi ds e=>by
   rw [getElem?_drop] at e ⊢
   rw [r.bor _ ds e]
   unfold bUp
   rw [if_neg (by omega)]
   congr 1
   omega }
theorem Rep.guard (r:Rep K B G I H U Γ){p:Addr} (h:H p=none) (o:HO):Rep K B (upd G p o) I (upd H p o) U Γ where
 iH:=r.iH.trans (mG h o)
 gH:=vM r.gH o
 len:=r.len
 slot:=λi q e=>by
  obtain ⟨v,e1,e2⟩:=r.slot i q e
  refine ⟨v,e1,?_⟩
  have mt:∀ ds,Mt K G I H ds v->Mt K (upd G p o) I (upd H p o) ds v:=λds hh=>by
   obtain ⟨p2,xs,h1,h2,h3,h4,h5⟩:=hh
   have ne:p2≠p:=nu h2 h
   exact ⟨p2,xs,h1,by rw [ma ne];exact h2,h3,by rw [ma ne];exact h4,h5⟩
  cases q with
  | val d=>exact e2
  | dic ds =>
   obtain ⟨p2,xs,h1,h2,h3,h4,h5⟩:=e2
   have ne:p2≠p:=nu h2 h
   exact ⟨p2,xs,h1,by rw [ma ne];exact h2,h3,by rw [ma ne];exact h4,h5⟩
  | own ds=>exact mt ds e2
  | bor ds=>exact mt ds e2
  | fro ds =>
   obtain ⟨p2,xs,f1,f2,f3,f4⟩:=e2
   have ne:p2≠p:=nu (r.iH _ _ f2) h
   exact ⟨p2,xs,f1,f2,by rw [ma ne];exact f3,f4⟩
 dist:=r.dist
 bor:=r.bor
theorem Rep.reguard {p:Addr}{o o':HO} (r:Rep K B (upd G p o) I H U Γ) (hi:I p=none):Rep K B (upd G p o') I (upd H p o') U Γ where
 iH:=λb u q=>by
  have ne:b≠p:=λz=>by subst z;rw [hi] at q;cases q
  rw [ma ne];exact r.iH b u q
 gH:=λb u q=>by
  by_cases e:b=p
  ·subst e;rw [mq] at q ⊢;exact q
  ·rw [ma e] at q ⊢;exact r.gH b u (by rw [ma e];exact q)
 len:=r.len
 slot:=λi q e=>by
  obtain ⟨v,e1,e2⟩:=r.slot i q e
  refine ⟨v,e1,?_⟩
  have mt:∀ ds,Mt K (upd G p o) I H ds v->Mt K (upd G p o') I (upd H p o') ds v:=λds hh=>by
   obtain ⟨p2,xs,h1,h2,h3,h4,h5⟩:=hh
   have ne:p2≠p:=λz=>by subst z;rw [mq] at h4;cases h4
   rw [ma ne] at h4
   exact ⟨p2,xs,h1,by rw [ma ne];exact h2,h3,by rw [ma ne];exact h4,h5⟩
  cases q with
  | val d=>exact e2
  | dic ds =>
   obtain ⟨p2,xs,h1,h2,h3,h4,h5⟩:=e2
   have ne:p2≠p:=λz=>by subst z;rw [mq] at h4;cases h4
   rw [ma ne] at h4
   exact ⟨p2,xs,h1,by rw [ma ne];exact h2,h3,by rw [ma ne];exact h4,h5⟩
  | own ds=>exact mt ds e2
  | bor ds=>exact mt ds e2
  | fro ds =>
   obtain ⟨p2,xs,f1,f2,f3,f4⟩:=e2
   have ne:p2≠p:=λz=>by rw [z,hi] at f2;cases f2
   rw [ma ne] at f3
   exact ⟨p2,xs,f1,f2,by rw [ma ne];exact f3,f4⟩
 dist:=r.dist
 bor:=r.bor
theorem Rep.unguard {p:Addr}{o:HO} (r:Rep K B (upd G p o) I H U Γ) (hg:G p=none):Rep K B G I H U Γ/\Apart U Γ p:=by
 have ap:Apart U Γ p:=λj q e mm s=>by
  obtain ⟨v,e1,e2⟩:=r.slot j q e
  obtain ⟨p2,xs,h1,h2,h3,h4⟩:=e2.mt mm
  rw [e1,h1] at s
  cases s
  rw [mq] at h4;cases h4
 refine ⟨{ iH:=r.iH,gH:=(mG hg o).trans r.gH,len:=r.len,slot:=λi q e=>?_,dist:=r.dist,bor:=r.bor },ap⟩
 obtain ⟨v,e1,e2⟩:=r.slot i q e
 refine ⟨v,e1,?_⟩
 have mt:∀ ds,Mt K (upd G p o) I H ds v->Mt K G I H ds v:=λds hh=>by
  obtain ⟨p2,xs,h1,h2,h3,h4,h5⟩:=hh
  have ne:p2≠p:=λz=>by subst z;rw [mq] at h4;cases h4
  rw [ma ne] at h4
  exact ⟨p2,xs,h1,h2,h3,h4,h5⟩
 cases q with
 | val d=>exact e2
 | dic ds =>
  obtain ⟨p2,xs,h1,h2,h3,h4,h5⟩:=e2
  have ne:p2≠p:=λz=>by subst z;rw [mq] at h4;cases h4
  rw [ma ne] at h4
  exact ⟨p2,xs,h1,h2,h3,h4,h5⟩
 | own ds=>exact mt ds e2
 | bor ds=>exact mt ds e2
 | fro ds =>
  obtain ⟨p2,xs,f1,f2,f3,f4⟩:=e2
  have ne:p2≠p:=λz=>by rw [z,mq] at f3;cases f3
  rw [ma ne] at f3
  exact ⟨p2,xs,f1,f2,f3,f4⟩
theorem Grow.unguard {I':Hp}{p:Addr}{o:HO} (g:Grow (upd G p o) I I'):Grow G I I':=⟨g.up,λb u q=>by
 rcases g.new b u q with z | z
 ·exact .inl z
 ·by_cases e:b=p
  ·subst e;rw [mq] at z;cases z
  ·rw [ma e] at z;exact .inr z⟩
theorem Grow.keepsOut {I':Hp}{p:Addr}{o:HO} (g:Grow (upd G p o) I I') (hi:I p=none):I' p=none:=by
 cases e:I' p with
 | none=>rfl
 | some u =>
  rcases g.new p u e with z | z
  ·rw [hi] at z;cases z
  ·rw [mq] at z;cases z
end
section
variable {X:Cx}{B:BB}{tg aR iter:Expr}{aN:List Expr}{scope:Scope}{pos:Pos}{N':List Str}{m:Nat}{it:M (List D)}{ay:D->M Unit}{ts:M Bool}{el:M D}
def TDs (X:Cx) (B:BB) (aN:List Expr) (g:M Bool):Prop:=PTs X aN (tTD X.K B g)
theorem vo:TDs X B [] (ret true):=λaa s U H Q I h=>Ai aa s U H Q I (by
 obtain ⟨G,I,Γ,b,ac,r,e1,k⟩:=h
 cases e1
 exact k _ _ r (Grow.refl _ _))
theorem pF {c:Expr}{g:M Bool} (h:TD X B c g):TDs X B [c] g:=yF h
theorem vc {K:PySem.W.Frag}:∀ U H Q,tO K B (compO m it ay ts el) U H Q->tComp m (tI K B it) (tGD K (bUp m B) m ay) (tTD K (bUp m B) ts) (tD K (bUp m B) el) U H Q:=λU H Q q=>by
 obtain ⟨G,I,Γ,rs,ac,r,e1,k⟩:=q
 obtain ⟨ds,Γ1,e2,e3⟩:=i' e1
 by_cases c7:ds.length<=lim
 case neg=>rw [if_neg c7] at e3;cases e3
 rw [if_pos c7] at e3
 obtain ⟨gB,e4,rfl⟩:=z9 e3
 refine ⟨G,I,Γ,ds,Γ1,r,e2,λJ H1 I1 r1 g1 y p hp=>?_⟩
 have gp:=r1.gFree hp
 have ip:=r1.iFree hp
 refine ⟨λi n af H'=>∃ ao ad I2 ai aw,Rep K (bUp m B) (upd G p (.lst ao)) I2 H' af ai/\Grow G I1 I2/\I2 p=none/\IsA K I2 ad ao/\af.drop m=U/\compM ay ts el (ds.drop i) ai=some (aw,gB)/\ad++aw=rs/\ad.length<=i/\i<=ds.length/\n=ds.length - i,
  ⟨ds.length,[],[],I1,_,rs,(r1.up m).guard hp _,Grow.refl _ _,ip,IsA.nil,by rw [List.drop_append_of_le_length (by simp),List.drop_of_length_le (by simp),nil_append],by simpa using e4,rfl,zero_le _,zero_le _,rfl⟩,?_⟩
 rintro i n aL H2 ⟨ao,ad,I2,ai,aw,r2,g2,gC,ha,hs,e5,rfl,lI,hi,rfl⟩
 obtain ⟨yg,ys⟩:=y i H2 (g2.up.trans r2.iH)
 by_cases br:i < ds.length
 ·have hd:ds.drop i=ds[i]::ds.drop (i+1):=drop_eq_getElem_cons br
  obtain ⟨go,yld⟩:=yg ds[i] (getElem?_eq_getElem br)
  rw [hd,compM] at e5
  obtain ⟨u,aF,e6,e7⟩:=i' e5
  obtain ⟨b,aI,e8,e9⟩:=i' e7
  refine .inr ⟨go,λx H3 hy=>?_⟩
  have main:∀ I3,Rep K (bUp m B) (upd G p (.lst ao)) I3 H3 aL ai->Grow (upd G p (.lst ao)) I2 I3->Is K I3 ds[i] x->tGD K (bUp m B) m ay x aL H3 λaL H3=>tTD K (bUp m B) ts aL H3 λb H4 =>
    if b=true then tD K (bUp m B) el aL H4 λy H5=>∃ ao,H5 p=some (.lst ao)/\ao.length < sizeLine/\∃ n',n' < ds.length - i/\∃ acc_1 ad_1 I2 ai rest_1,Rep K (bUp m B) (upd G p (.lst acc_1)) I2 (upd H5 p (.lst (ao++[y]))) aL ai/\Grow G I1 I2/\I2 p=none/\IsA K I2 ad_1 acc_1/\aL.drop m=U/\compM ay ts el (ds.drop (i+1)) ai=some (rest_1,gB)/\ad_1++rest_1=ad++aw/\ad_1.length<=i+1/\i+1<=ds.length/\n'=ds.length - (i+1)
    else ∃ n',n' < ds.length - i/\∃ ao ad_1 I2 ai rest_1,Rep K (bUp m B) (upd G p (.lst ao)) I2 H4 aL ai/\Grow G I1 I2/\I2 p=none/\IsA K I2 ad_1 ao/\aL.drop m=U/\compM ay ts el (ds.drop (i+1)) ai=some (rest_1,gB)/\ad_1++rest_1=ad++aw/\ad_1.length<=i+1/\i+1<=ds.length/\n'=ds.length - (i+1):=by
   intro I3 r3 g3 hx
   refine ⟨_,I3,ai,ds[i],aF,r3,hx,e6,λiC H4 I4 r4 g4 jX=>⟨_,I4,aF,b,aI,r4,e8,λH5 I5 r5 g5=>?_⟩⟩
   have eU:=g3.trans (g4.trans g5)
   have dm:iC.drop m=U:=jX.trans hs
   cases b with
   | false =>
    refine iteF ⟨ds.length - (i+1),by omega,ao,ad,I5,aI,aw,r5,g2.trans eU.unguard,eU.keepsOut gC,ha.mono eU.up,dm,by simpa using e9,rfl,by omega,br,rfl⟩
   | true =>
    simp only [if_true] at e9
    obtain ⟨xd,dR,f1,f2⟩:=i' e9
    obtain ⟨rr,lJ,f3,f4⟩:=i' f2
    cases f4
    refine iteT ⟨_,I5,aI,xd,dR,r5,f1,λyv H6 I6 r6 g6 jY=>⟨ao,r6.gH _ _ mq,?_,ds.length - (i+1),by omega,ao++[yv],ad++[xd],I6,dR,rr,?_⟩⟩
    ·rw [← ha.length]
     have h1:lim < sizeLine:=by rw [sizeLine_eq];decide
     omega
    ·have gD:=eU.trans g6
     have iP:=gD.keepsOut gC
     exact ⟨r6.reguard iP,g2.trans gD.unguard,iP,IsA.append (ha.mono gD.up) (IsA.cons jY IsA.nil),dm,f3,by rw [List.append_assoc];rfl,by rw [length_append,List.length_singleton];omega,br,rfl⟩
  rcases yld x H3 hy with ⟨rfl,hx⟩ | ⟨p2,es,xs,cb,rfl,cM,rfl,hx⟩
  ·exact main I2 r2 (Grow.refl _ _) (hx.mono g2.up)
  ·refine main _ (r2.alloc cM _) (r2.growAlloc cM _) ?_
   rw [cb]
   exact Is.tup (SqT.of mq) ((hx.mono g2.up).mono (mG (r2.iFree cM) _))
 ·have cN:i=ds.length:=by omega
  subst cN
  rw [List.drop_length] at e5
  cases e5
  rw [append_nil] at k
  refine .inl ⟨ys (le_refl _),?_⟩
  have rd:=Rep.down r2 hs
  obtain ⟨ru,ap⟩:=rd.unguard gp
  exact k p ao H2 I2 ru (g1.trans g2) (r2.gH _ _ mq) gC gp ap ha
theorem o8 (S:CompScope X.env.scope scope X.N N' m) (hc:X.calm=true) (hi:ITD X B tg iter it)
  (hg:∀ C s H ex,GD (cxC X scope N' C s H ex) (bUp m B) m tg ay) (ht:∀ C s H ex,TDs (cxC X scope N' C s H ex) (bUp m B) aN ts) (he:∀ C s H ex,ED (cxC X scope N' C s H ex) (bUp m B) aR el)
  (hs:∀ x,foldedSetIterable iter X.env x=pure x:=by intro _;rfl):EO X B (.ListComp aR [⟨tg,iter,aN,0⟩] scope pos) (compO m it ay ts el):=PE.imp (zm (g:=tGD X.K (bUp m B) m ay) (tt:=tTD X.K (bUp m B) ts) (te:=tD X.K (bUp m B) el) S hc hi hg ht he hs) vc
theorem wE {i:Nat}{y:Str}{py cC:Pos} (S:CompScope X.env.scope scope X.N N' m) (hc:X.calm=true) (hN:X.N.Nodup) (hi:ITD X B tg iter it)
  (hg:∀ C s H ex,GD (cxC X scope N' C s H ex) (bUp m B) m tg ay) (ht:∀ C s H ex,TDs (cxC X scope N' C s H ex) (bUp m B) aN ts) (he:∀ C s H ex,ED (cxC X scope N' C s H ex) (bUp m B) aR el)
  (dk:X.N[i]?=some y:=by rfl) (hy:X.env.scope.names.lookup y=some .local:=by rfl) (gy:swapsWith (.ListComp aR [⟨tg,iter,aN,0⟩] scope pos) (some (.Name y py)) cC.line X.env=pure true:=by rfl)
  (hs:∀ x,foldedSetIterable iter X.env x=pure x:=by intro _;rfl):SD X B (.Assign [.Name y py] (.ListComp aR [⟨tg,iter,aN,0⟩] scope pos) cC) (setV i (frz (compO m it ay ts el))):=PS.imp (B5 (g:=tGD X.K (bUp m B) m ay) (tt:=tTD X.K (bUp m B) ts) (te:=tD X.K (bUp m B) el) S hc hN dk hy hi hg ht he gy hs) λE U H q=>by
 obtain ⟨G,I,Γ,f,ac,r,e1,k⟩:=q
 obtain ⟨d1,Γ1,e2,e3⟩:=i' e1
 obtain ⟨d2,ai,e4,e5⟩:=i' e3
 cases e5
 obtain ⟨hl,rfl⟩:=pd e4
 obtain ⟨ds,aF,e6,e7⟩:=i' e2
 cases e7
 refine vc U H _ ⟨G,I,Γ,ds,_,r,e6,λp xs H1 I1 r1 g1 h1 h2 h3 h4 h5=>?_⟩
 refine k _ H1 _ ((r1.freeze h1 h2 h4).store (by rw [r1.len];exact hl) (Is.lst (RdK.of mq) (h5.mono (mG h2 _))) (λm=>nomatch m) (λ_ z=>nomatch z)) (g1.trans (growFreeze h2 h3))
end
mutual
noncomputable def deq:D->D->Bool
 | .non,.non=>true
 | .bl a,.bl b=>a == b
 | .bl a,.int j=>(if a then (1:Int) else 0) == j
 | .int i,.bl b=>i == (if b then (1:Int) else 0)
 | .int i,.int j=>i == j
 | .str x,.str y=>x == y
 | .tup xs,.tup ys=>deqA xs ys
 | .lst xs,.lst ys=>deqA xs ys
 | .exc _ _,.exc _ _=>true
 | _,_=>false
noncomputable def deqA:List D->List D->Bool
 | [],[]=>true
 | x::xs,y::ys=>deq x y&&deqA xs ys
 | _,_=>false
end
mutual
noncomputable def dep:D->Nat
 | .tup xs=>depA xs+1
 | .lst xs=>depA xs+1
 | .exc _ _=>1000
 | _=>0
noncomputable def depA:List D->Nat
 | []=>0
 | x::xs=>max (dep x) (depA xs)
end
mutual
theorem vO:∀ a:D,deq a a=true
 | .non=>by rw [deq]
 | .bl b=>by rw [deq];exact beq_self_eq_true b
 | .int b=>by rw [deq];exact beq_self_eq_true b
 | .str b=>by rw [deq];exact beq_self_eq_true b
 | .tup xs=>by rw [deq];exact pA xs
 | .lst xs=>by rw [deq];exact pA xs
 | .exc _ _=>by rw [deq]
theorem pA:∀ a:List D,deqA a a=true
 | []=>by rw [deqA]
 | x::xs=>by rw [deqA,vO x,pA xs];rfl
end
theorem mT:∀ {xs:List D}{x:D},x∈xs->dep x<=depA xs
 | y::ys,x,h=>by
  rw [depA]
  rcases mem_cons.mp h with rfl | h
  ·omega
  ·have:=mT h;omega
theorem pI:∀ (xs ys:List D),((range (min xs.length ys.length)).all (λj=>deq (xs.getD j .non) (ys.getD j .non))&&(xs.length == ys.length))=deqA xs ys
 | [],[]=>by rw [deqA];rfl
 | [],y::ys=>by rw [deqA]<;>simp
 | x::xs,[]=>by rw [deqA]<;>simp
 | x::xs,y::ys=>by
  have ih:=pI xs ys
  have e:min (x::xs).length (y::ys).length=min xs.length ys.length+1:=by simp only [length_cons];omega
  rw [deqA,← ih,e,List.range_succ_eq_map,all_cons,List.all_map]
  have e2:((x::xs).length == (y::ys).length)=(xs.length == ys.length):=by
   simp only [length_cons]
   cases h:xs.length == ys.length
   ·simp at h ⊢;omega
   ·simp at h ⊢;omega
  rw [e2,Bool.and_assoc]
  rfl
theorem ye {xs ys:List D} (h:xs.length≠ys.length):deqA xs ys=false:=by
 rw [← pI]
 have:(xs.length == ys.length)=false:=by simpa using h
 rw [this,Bool.and_false]
section
variable {X:Cx}{aa:List (Addr×Obj)}{U:L2.St}{H:Hp}{s:Shared}
theorem IsA.getU {K:PySem.W.Frag}{I:Hp}{ds:List D}{xs:List V}{us:List Value} (h:IsA K I ds xs) (r:Vals xs us){j:Nat} (hj:j < us.toArray.size):∃ v,RelV v us.toArray[j]/\Is K I (ds.getD j .non) v:=by
 have h1:=h.length
 have h2:=r.length
 have jZ:j < us.length:=by simpa using hj
 have hd:ds[j]?=some ds[j]:=getElem?_eq_getElem (by omega)
 obtain ⟨v,e1,e2⟩:=h.get hd
 obtain ⟨u,e3,e4⟩:=r.get e1
 have e5:us.toArray[j]=u:=by
  rw [getElem?_eq_getElem jZ] at e3
  simpa using e3
 refine ⟨v,by rw [e5];exact e4,?_⟩
 rw [getD_eq_getElem?_getD,hd]
 exact e2
theorem rdL {a:Addr}{xs:List V}{K:PySem.W.Frag} (h:RdK K H a xs):SqL K H a xs:=h.sq
mutual
theorem pH (I:Inv X aa U H s):∀ {a b:D}{v:V},dep a < 1000->dep b < 1000->Is X.K H a v->Is X.K H b v->a=b
 | .non,b,v,da,db,h,h'=>by
  have e:=mV h;subst e
  cases b<;>first | rfl | (simp [dep] at db;done) | (rw [Is] at h';obtain ⟨_,_,e,_⟩:=h';cases e) | (rw [Is] at h';cases h')
 | .bl x,b,v,da,db,h,h'=>by
  have e:=mP h;subst e
  cases b<;>first | (simp [dep] at db;done) | (rw [Is] at h';obtain ⟨_,_,e,_⟩:=h';cases e) | (rw [Is] at h';cases h';rfl) | (rw [Is] at h';cases h')
 | .int x,b,v,da,db,h,h'=>by
  have e:=mn h;subst e
  cases b<;>first | (simp [dep] at db;done) | (rw [Is] at h';obtain ⟨_,_,e,_⟩:=h';cases e) | (rw [Is] at h';cases h';rfl) | (rw [Is] at h';cases h')
 | .str x,b,v,da,db,h,h'=>by
  have e:=mU h;subst e
  cases b<;>first | (simp [dep] at db;done) | (rw [Is] at h';obtain ⟨_,_,e,_⟩:=h';cases e) | (rw [Is] at h';cases h';rfl) | (rw [Is] at h';cases h')
 | .tup ds,b,v,da,db,h,h'=>by
  obtain ⟨p,xs,rfl,h1,h2⟩:=mv h
  cases b with
  | tup es =>
   obtain ⟨p',aV,e,h3,h4⟩:=mv h'
   cases e
   have:=I.tuple_inj h1 h3
   subst this
   rw [sJ I (by rw [dep] at da;omega) (by rw [dep] at db;omega) h2 h4]
  | lst es =>
   obtain ⟨p',aV,e,h3,h4⟩:=mx h'
   cases e
   obtain ⟨i1,_,t1,_⟩:=I.tuple h1
   obtain ⟨i2,_,t2,_⟩:=I.list (rdL h3)
   exact absurd rfl (ne_of_list_tuple t2.isList t1)
  | exc _ _=>simp [dep] at db
  | _=>rw [Is] at h';cases h'
 | .lst ds,b,v,da,db,h,h'=>by
  obtain ⟨p,xs,rfl,h1,h2⟩:=mx h
  cases b with
  | lst es =>
   obtain ⟨p',aV,e,h3,h4⟩:=mx h'
   cases e
   have:=I.list_inj (rdL h1) (rdL h3)
   subst this
   rw [sJ I (by rw [dep] at da;omega) (by rw [dep] at db;omega) h2 h4]
  | tup es =>
   obtain ⟨p',aV,e,h3,h4⟩:=mv h'
   cases e
   obtain ⟨i1,_,t1,_⟩:=I.tuple h3
   obtain ⟨i2,_,t2,_⟩:=I.list (rdL h1)
   exact absurd rfl (ne_of_list_tuple t2.isList t1)
  | exc _ _=>simp [dep] at db
  | _=>rw [Is] at h';cases h'
 | .exc _ _,b,v,da,_,_,_=>by simp [dep] at da
theorem sJ (I:Inv X aa U H s):∀ {a b:List D}{v:List V},depA a < 1000->depA b < 1000->IsA X.K H a v->IsA X.K H b v->a=b
 | [],b,v,_,_,h,h'=>by
  have e:=h.nil_inv;subst e
  cases b with
  | nil=>rfl
  | cons d r=>obtain ⟨_,_,e,_⟩:=h'.cons_inv;cases e
 | d::ds,b,v,da,db,h,h'=>by
  obtain ⟨x,r,rfl,h1,h2⟩:=h.cons_inv
  cases b with
  | nil=>have:=h'.nil_inv;cases this
  | cons e es =>
   obtain ⟨x',r',e',h3,h4⟩:=h'.cons_inv
   cases e'
   rw [depA] at da db
   rw [pH I (by omega) (by omega) h1 h3,sJ I (by omega) (by omega) h2 h4]
end
open PySem.SeqAt in
theorem um (I:Inv X aa U H s){A:Around} (hu:A.units < cLine){a b:D}{x y:V}{u v:Value} (da:dep a < 1000) (db:dep b < 1000) (ha:Is X.K H a x) (hb:Is X.K H b y) (ru:RelV x u) (rv:RelV y v)
  (ht:∀ xs ys,a=.tup xs->b=.tup ys->RcAt A s u v (deq a b)/\EqAt A s u v (deq a b)/\RcNeAt A s u v (!deq a b))
  (hl:∀ xs ys,a=.lst xs->b=.lst ys->RcAt A s u v (deq a b)/\EqAt A s u v (deq a b)/\RcNeAt A s u v (!deq a b)):RcAt A s u v (deq a b)/\EqAt A s u v (deq a b)/\RcNeAt A s u v (!deq a b):=by
 cases a with
 | exc _ _=>simp [dep] at da
 | non =>
  have e:=mV ha;subst e;cases ru
  cases b with
  | exc _ _=>simp [dep] at db
  | non=>have e:=mV hb;subst e;cases rv;rw [deq];exact ⟨.none_none,.same _,.none_none⟩
  | bl j=>have e:=mP hb;subst e;cases rv;rw [deq]<;>first | exact ⟨.none_bool _,.none_bool _,.none_bool _⟩ | (intros;contradiction)
  | int j=>have e:=mn hb;subst e;obtain ⟨t,rfl⟩:=rv;rw [deq]<;>first | exact ⟨.none_int _ _,.none_int _ _,.none_int _ _⟩ | (intros;contradiction)
  | str j=>have e:=mU hb;subst e;obtain ⟨t,rfl⟩:=rv;rw [deq]<;>first | exact ⟨.none_str _ _,.none_str _ _,.none_str _ _⟩ | (intros;contradiction)
  | tup j =>
   obtain ⟨p,xs,rfl,h1,h2⟩:=mv hb;cases rv
   obtain ⟨ae,_,t,_⟩:=I.tuple h1
   rw [deq]<;>first | exact ⟨.none_tuple t hu,.none_tuple t hu,.none_tuple t hu⟩ | (intros;contradiction)
  | lst j =>
   obtain ⟨p,xs,rfl,h1,h2⟩:=mx hb;cases rv
   obtain ⟨ae,_,t,_⟩:=I.list (rdL h1)
   have t:=t.isList
   rw [deq]<;>first | exact ⟨.none_list t hu,.none_list t hu,.none_list t hu⟩ | (intros;contradiction)
 | bl i =>
  have e:=mP ha;subst e;cases ru
  cases b with
  | exc _ _=>simp [dep] at db
  | non=>have e:=mV hb;subst e;cases rv;rw [deq]<;>first | exact ⟨.bool_none _,.bool_none _,.bool_none _⟩ | (intros;contradiction)
  | bl j=>have e:=mP hb;subst e;cases rv;rw [deq];exact ⟨.bool_bool _ _,.bool_bool _ _,.bool_bool _ _⟩
  | int j=>have e:=mn hb;subst e;obtain ⟨t,rfl⟩:=rv;rw [deq];exact ⟨.bool_int _ _ _,.bool_int _ _ _,.bool_int _ _ _⟩
  | str j=>have e:=mU hb;subst e;obtain ⟨t,rfl⟩:=rv;rw [deq]<;>first | exact ⟨.bool_str _ _ _,.bool_str _ _ _,.bool_str _ _ _⟩ | (intros;contradiction)
  | tup j =>
   obtain ⟨p,xs,rfl,h1,h2⟩:=mv hb;cases rv
   obtain ⟨ae,_,t,_⟩:=I.tuple h1
   rw [deq]<;>first | exact ⟨.bool_tuple _ t hu,.bool_tuple _ t hu,.bool_tuple _ t hu⟩ | (intros;contradiction)
  | lst j =>
   obtain ⟨p,xs,rfl,h1,h2⟩:=mx hb;cases rv
   obtain ⟨ae,_,t,_⟩:=I.list (rdL h1)
   have t:=t.isList
   rw [deq]<;>first | exact ⟨.bool_list _ t hu,.bool_list _ t hu,.bool_list _ t hu⟩ | (intros;contradiction)
 | int i =>
  have e:=mn ha;subst e;obtain ⟨t0,rfl⟩:=ru
  cases b with
  | exc _ _=>simp [dep] at db
  | non=>have e:=mV hb;subst e;cases rv;rw [deq]<;>first | exact ⟨.int_none _ _,.int_none _ _,.int_none _ _⟩ | (intros;contradiction)
  | bl j=>have e:=mP hb;subst e;cases rv;rw [deq];exact ⟨.int_bool _ _ _,.int_bool _ _ _,.int_bool _ _ _⟩
  | int j=>have e:=mn hb;subst e;obtain ⟨t,rfl⟩:=rv;rw [deq];exact ⟨.int_int _ _ _ _,.int_int _ _ _ _,.int_int _ _ _ _⟩
  | str j=>have e:=mU hb;subst e;obtain ⟨t,rfl⟩:=rv;rw [deq]<;>first | exact ⟨.int_str _ _ _ _,.int_str _ _ _ _,.int_str _ _ _ _⟩ | (intros;contradiction)
  | tup j =>
   obtain ⟨p,xs,rfl,h1,h2⟩:=mv hb;cases rv
   obtain ⟨ae,_,t,_⟩:=I.tuple h1
   rw [deq]<;>first | exact ⟨.int_tuple _ _ t hu,.int_tuple _ _ t hu,.int_tuple _ _ t hu⟩ | (intros;contradiction)
  | lst j =>
   obtain ⟨p,xs,rfl,h1,h2⟩:=mx hb;cases rv
   obtain ⟨ae,_,t,_⟩:=I.list (rdL h1)
   have t:=t.isList
   rw [deq]<;>first | exact ⟨.int_list _ _ t hu,.int_list _ _ t hu,.int_list _ _ t hu⟩ | (intros;contradiction)
 | str i =>
  have e:=mU ha;subst e;obtain ⟨t0,rfl⟩:=ru
  cases b with
  | exc _ _=>simp [dep] at db
  | non=>have e:=mV hb;subst e;cases rv;rw [deq]<;>first | exact ⟨.str_none _ _,.str_none _ _,.str_none _ _⟩ | (intros;contradiction)
  | bl j=>have e:=mP hb;subst e;cases rv;rw [deq]<;>first | exact ⟨.str_bool _ _ _,.str_bool _ _ _,.str_bool _ _ _⟩ | (intros;contradiction)
  | int j=>have e:=mn hb;subst e;obtain ⟨t,rfl⟩:=rv;rw [deq]<;>first | exact ⟨.str_int _ _ _ _,.str_int _ _ _ _,.str_int _ _ _ _⟩ | (intros;contradiction)
  | str j=>have e:=mU hb;subst e;obtain ⟨t,rfl⟩:=rv;rw [deq];exact ⟨.str_str _ _ _ _,.str_str _ _ _ _,.str_str _ _ _ _⟩
  | tup j =>
   obtain ⟨p,xs,rfl,h1,h2⟩:=mv hb;cases rv
   obtain ⟨ae,_,t,_⟩:=I.tuple h1
   rw [deq]<;>first | exact ⟨.str_tuple _ _ t hu,.str_tuple _ _ t hu,.str_tuple _ _ t hu⟩ | (intros;contradiction)
  | lst j =>
   obtain ⟨p,xs,rfl,h1,h2⟩:=mx hb;cases rv
   obtain ⟨ae,_,t,_⟩:=I.list (rdL h1)
   have t:=t.isList
   rw [deq]<;>first | exact ⟨.str_list _ _ t hu,.str_list _ _ t hu,.str_list _ _ t hu⟩ | (intros;contradiction)
 | tup i =>
  obtain ⟨q,ys,rfl,g1,g2⟩:=mv ha;cases ru
  obtain ⟨aS,_,t',_⟩:=I.tuple g1
  cases b with
  | exc _ _=>simp [dep] at db
  | non=>have e:=mV hb;subst e;cases rv;rw [deq]<;>first | exact ⟨.tuple_none t' hu,.tuple_none t' hu,.tuple_none t' hu⟩ | (intros;contradiction)
  | bl j=>have e:=mP hb;subst e;cases rv;rw [deq]<;>first | exact ⟨.tuple_bool _ t' hu,.tuple_bool _ t' hu,.tuple_bool _ t' hu⟩ | (intros;contradiction)
  | int j=>have e:=mn hb;subst e;obtain ⟨t,rfl⟩:=rv;rw [deq]<;>first | exact ⟨.tuple_int _ _ t' hu,.tuple_int _ _ t' hu,.tuple_int _ _ t' hu⟩ | (intros;contradiction)
  | str j=>have e:=mU hb;subst e;obtain ⟨t,rfl⟩:=rv;rw [deq]<;>first | exact ⟨.tuple_str _ _ t' hu,.tuple_str _ _ t' hu,.tuple_str _ _ t' hu⟩ | (intros;contradiction)
  | tup j=>exact ht _ _ rfl rfl
  | lst j =>
   obtain ⟨p,xs,rfl,h1,h2⟩:=mx hb;cases rv
   obtain ⟨ae,_,t,_⟩:=I.list (rdL h1)
   have t:=t.isList
   rw [deq]<;>first | exact ⟨.tuple_list t' t hu,.tuple_list t' t hu,.tuple_list t' t hu⟩ | (intros;contradiction)
 | lst i =>
  obtain ⟨q,ys,rfl,g1,g2⟩:=mx ha;cases ru
  obtain ⟨aS,_,t',_⟩:=I.list (rdL g1)
  have t':=t'.isList
  cases b with
  | exc _ _=>simp [dep] at db
  | non=>have e:=mV hb;subst e;cases rv;rw [deq]<;>first | exact ⟨.list_none t' hu,.list_none t' hu,.list_none t' hu⟩ | (intros;contradiction)
  | bl j=>have e:=mP hb;subst e;cases rv;rw [deq]<;>first | exact ⟨.list_bool _ t' hu,.list_bool _ t' hu,.list_bool _ t' hu⟩ | (intros;contradiction)
  | int j=>have e:=mn hb;subst e;obtain ⟨t,rfl⟩:=rv;rw [deq]<;>first | exact ⟨.list_int _ _ t' hu,.list_int _ _ t' hu,.list_int _ _ t' hu⟩ | (intros;contradiction)
  | str j=>have e:=mU hb;subst e;obtain ⟨t,rfl⟩:=rv;rw [deq]<;>first | exact ⟨.list_str _ _ t' hu,.list_str _ _ t' hu,.list_str _ _ t' hu⟩ | (intros;contradiction)
  | lst j=>exact hl _ _ rfl rfl
  | tup j =>
   obtain ⟨p,xs,rfl,h1,h2⟩:=mv hb;cases rv
   obtain ⟨ae,_,t,_⟩:=I.tuple h1
   rw [deq]<;>first | exact ⟨.list_tuple t' t hu,.list_tuple t' t hu,.list_tuple t' t hu⟩ | (intros;contradiction)
open PySem.SeqAt in
theorem pr (I:Inv X aa U H s):∀ (n:Nat) (A:Around),A.units+n < cLine->n < 900->∀ (a b:D) (x y:V) (u v:Value),dep a<=n/\dep b<=n->Is X.K H a x->Is X.K H b y->RelV x u->RelV y v->RcAt A s u v (deq a b)/\EqAt A s u v (deq a b)/\RcNeAt A s u v (!deq a b):=by
 intro n
 induction n with
 | zero =>
  intro A hu hn a b x y u v hd ha hb ru rv
  refine um I (by omega) (by omega) (by omega) ha hb ru rv (λxs ys e1 e2=>?_) (λxs ys e1 e2=>?_)<;>(subst e1;subst e2;rw [dep,dep] at hd;omega)
 | succ n ih =>
  intro A hu hn a b x y u v hd ha hb ru rv
  have cS:A.in1.units+n < cLine:=by show A.units+1+n < cLine;omega
  refine um I (by omega) (by omega) (by omega) ha hb ru rv (λds es e1 e2=>?_) (λds es e1 e2=>?_)
  ·subst e1;subst e2
   obtain ⟨p,xs,rfl,h1,h2⟩:=mv ha
   obtain ⟨q,ys,rfl,h3,h4⟩:=mv hb
   cases ru;cases rv
   obtain ⟨ae,r1,t1,_⟩:=I.tuple h1
   obtain ⟨aS,r2,t2,_⟩:=I.tuple h3
   have l1:ae.toArray.size=ds.length:=by rw [size_toArray,← r1.length,h2.length]
   have l2:aS.toArray.size=es.length:=by rw [size_toArray,← r2.length,h4.length]
   have hk:∀ j (g1:j < ae.toArray.size) (g2:j < aS.toArray.size),EqAt A.in1 s ae.toArray[j] aS.toArray[j] (deq (ds.getD j .non) (es.getD j .non)):=λj g1 g2=>by
    obtain ⟨v1,q1,q2⟩:=h2.getU r1 g1
    obtain ⟨v2,q3,q4⟩:=h4.getU r2 g2
    refine (ih A.in1 cS (by omega) _ _ _ _ _ _ ?_ q2 q4 q1 q3).2.1
    have m1:ds.getD j .non∈ds:=by
     rw [getD_eq_getElem?_getD,getElem?_eq_getElem (by omega)]
     exact getElem_mem _
    have m2:es.getD j .non∈es:=by
     rw [getD_eq_getElem?_getD,getElem?_eq_getElem (by omega)]
     exact getElem_mem _
    have k1:=mT m1
    have k2:=mT m2
    rw [dep,dep] at hd
    omega
   have re:((range (min ae.toArray.size aS.toArray.size)).all (λj=>deq (ds.getD j .non) (es.getD j .non))&&ae.toArray.size == aS.toArray.size)=deqA ds es:=by
    rw [l1,l2];exact pI ds es
   have R1:=RcAt.tuples (A:=A) t1 t2 (by omega) hk
   have R3:=RcNeAt.tuples (A:=A) t1 t2 (by omega) hk
   rw [re] at R1 R3
   have ed:deq (.tup ds) (.tup es)=deqA ds es:=by rw [deq]
   rw [ed]
   refine ⟨R1,?_,R3⟩
   by_cases hpq:p=q
   ·subst hpq
    have:=pH I (by omega) (by omega) ha hb
    cases this
    rw [pA]
    exact .same _
   ·exact .of_refs hpq R1
  ·subst e1;subst e2
   obtain ⟨p,xs,rfl,h1,h2⟩:=mx ha
   obtain ⟨q,ys,rfl,h3,h4⟩:=mx hb
   cases ru;cases rv
   obtain ⟨ae,r1,t1,_⟩:=I.list (rdL h1)
   obtain ⟨aS,r2,t2,_⟩:=I.list (rdL h3)
   have t1:=t1.isList
   have t2:=t2.isList
   have l1:ae.toArray.size=ds.length:=by rw [size_toArray,← r1.length,h2.length]
   have l2:aS.toArray.size=es.length:=by rw [size_toArray,← r2.length,h4.length]
   have ed:deq (.lst ds) (.lst es)=deqA ds es:=by rw [deq]
   rw [ed]
   have fin:RcAt A s (.ref p) (.ref q) (deqA ds es)/\RcNeAt A s (.ref p) (.ref q) (!deqA ds es):=by
    by_cases hl:ds.length=es.length
    ·have hk:∀ j (g1:j < ae.toArray.size) (g2:j < aS.toArray.size),EqAt A.in1 s ae.toArray[j] aS.toArray[j] (deq (ds.getD j .non) (es.getD j .non)):=λj g1 g2=>by
      obtain ⟨v1,q1,q2⟩:=h2.getU r1 g1
      obtain ⟨v2,q3,q4⟩:=h4.getU r2 g2
      refine (ih A.in1 cS (by omega) _ _ _ _ _ _ ?_ q2 q4 q1 q3).2.1
      have m1:ds.getD j .non∈ds:=by
       rw [getD_eq_getElem?_getD,getElem?_eq_getElem (by omega)]
       exact getElem_mem _
      have m2:es.getD j .non∈es:=by
       rw [getD_eq_getElem?_getD,getElem?_eq_getElem (by omega)]
       exact getElem_mem _
      have k1:=mT m1
      have k2:=mT m2
      rw [dep,dep] at hd
      omega
     have re:(range ae.toArray.size).all (λj=>deq (ds.getD j .non) (es.getD j .non))=deqA ds es:=by
      rw [← pI ds es,l1,hl,Nat.min_self,beq_self_eq_true,Bool.and_true]
     have R1:=RcAt.lists (A:=A) t1 t2 (by omega) (by omega) hk
     have R3:=RcNeAt.lists (A:=A) t1 t2 (by omega) (by omega) hk
     rw [re] at R1 R3
     exact ⟨R1,R3⟩
    ·rw [ye hl]
     have eV:(ae.toArray.size != aS.toArray.size)=true:=by rw [l1,l2];simpa using hl
     exact ⟨.lists_lengths t1 t2 eV (by omega),.lists_lengths t1 t2 eV (by omega)⟩
   refine ⟨fin.1,?_,fin.2⟩
   by_cases hpq:p=q
   ·subst hpq
    have:=pH I (by omega) (by omega) ha hb
    cases this
    rw [pA]
    exact .same _
   ·exact .of_refs hpq fin.1
noncomputable def rEqD (K:PySem.W.Frag) (neg:Bool):R2:=λx y H Q=>∃ a b,Is K H a x/\Is K H b y/\(dep a<=100/\dep b<=100)/\Q (.bl (if neg then !deq a b else deq a b)) H
theorem vp (hu:X.A.units+100 < cLine):OpR X (compareOp .Eq) (rEqD X.K false):=by
 intro aa s U H x y v u Q I rx ry h
 obtain ⟨a,b,h1,h2,h3,q⟩:=h
 exact (pr I 100 X.A hu (by decide) a b x y v u h3 h1 h2 rx ry).1 _ _ _ _ ⟨.bl (deq a b),H,I,rfl,q⟩
theorem yd (hu:X.A.units+100 < cLine):OpR X (compareOp .NotEq) (rEqD X.K true):=by
 intro aa s U H x y v u Q I rx ry h
 obtain ⟨a,b,h1,h2,h3,q⟩:=h
 exact (pr I 100 X.A hu (by decide) a b x y v u h3 h1 h2 rx ry).2.2 _ _ _ _ ⟨.bl (!deq a b),H,I,rfl,q⟩
noncomputable def rInD (K:PySem.W.Frag) (neg:Bool):R2:=λx y H Q=>∃ a ds,Is K H a x/\(Is K H (.lst ds) y\/Is K H (.tup ds) y)/\(dep a<=99/\depA ds<=99)/\Q (.bl (if neg then !ds.any (λd=>deq d a) else ds.any λd=>deq d a)) H
theorem BR {K:PySem.W.Frag}{ds:List D}{xs:List V}{us:List Value}{f:D->Bool}{e:Value->Bool} (h:IsA K H ds xs) (r:Vals xs us) (hf:∀ d v u,d∈ds->Is K H d v->RelV v u->e u=f d):us.any e=ds.any f:=by
 induction ds generalizing xs us with
 | nil=>have:=h.nil_inv;subst this;cases r;rfl
 | cons d ds ih =>
  obtain ⟨x,xr,rfl,h1,h2⟩:=h.cons_inv
  cases r with
  | cons r1 r2 =>
   rw [List.any_cons,List.any_cons,hf d _ _ mem_cons_self h1 r1,ih h2 r2 λd v u hd=>hf d v u (mem_cons_of_mem _ hd)]
theorem uX (hu:X.A.units+100 < cLine){neg:Bool}{aa:List (Addr×Obj)}{U:L2.St}{H:Hp}{s:Shared}{x y:V}{v u:Value}{Q:VK} (I:Inv X aa U H s) (rx:RelV x v) (ry:RelV y u) (h:rInD X.K neg x y H Q) :
  ∃ (ae:Array Value) (e:Value->Bool) (l:Addr),u=.ref l/\(s.heap.IsList l ae\/s.heap.IsTuple l ae)/\(∀ z,z∈ae->PySem.SeqAt.EqAt X.A.in1 s z v (e z))/\Q (.bl (if neg then !ae.any e else ae.any e)) H:=by
 obtain ⟨a,ds,h1,h2,h3,q⟩:=h
 have cS:X.A.in1.units+99 < cLine:=by show X.A.units+1+99 < cLine;omega
 -- every item has ae data: e reads it gE
 have bS:∀ (xs:List V) (ae:List Value),IsA X.K H ds xs->Vals xs ae->∃ e:Value->Bool,(∀ z,z∈ae.toArray->PySem.SeqAt.EqAt X.A.in1 s z v (e z))/\ae.toArray.any e=ds.any λd=>deq d a:=by
  intro xs ae ha r
  have ex:∀ z:Value,∃ b:Bool,∀ d w,d∈ds->Is X.K H d w->RelV w z->b=deq d a:=λz=>by
   by_cases hz:∃ d w,d∈ds/\Is X.K H d w/\RelV w z
   ·obtain ⟨d,w,hd,hi,hr⟩:=hz
    refine ⟨deq d a,λd' w' dB dk j0=>?_⟩
    have:=RelV.inj hr j0
    subst this
    rw [pH I (by have:=mT hd;omega) (by have:=mT dB;omega) hi dk]
   ·exact ⟨false,λd w hd hi hr=>absurd ⟨d,w,hd,hi,hr⟩ hz⟩
  refine ⟨λz=>(ex z).choose,λz hz=>?_,?_⟩
  ·have j5:z∈ae:=by simpa using hz
   obtain ⟨j,hj,ej⟩:=List.mem_iff_getElem.mp j5
   obtain ⟨w,q1,q2⟩:=ha.getU r (j:=j) (by simpa using hj)
   have iQ:RelV w z:=by
    have:ae.toArray[j]'(by simpa using hj)=z:=by simpa using ej
    rw [← this];exact q1
   have hm:ds.getD j .non∈ds:=by
    have l1:=ha.length
    have l2:=r.length
    rw [getD_eq_getElem?_getD,getElem?_eq_getElem (by omega)]
    exact getElem_mem _
   show PySem.SeqAt.EqAt X.A.in1 s z v (ex z).choose
   rw [(ex z).choose_spec _ w hm q2 iQ]
   exact (pr I 99 X.A.in1 cS (by decide) _ a w x z v ⟨by have:=mT hm;omega,h3.1⟩ q2 h1 iQ rx).2.1
  ·have:ae.toArray.any (λz=>(ex z).choose)=ae.any (λz=>(ex z).choose):=by simp
   rw [this]
   exact BR ha r λd w z hd hi hr=>(ex z).choose_spec d w hd hi hr
 rcases h2 with h2 | h2
 ·obtain ⟨l,xs,rfl,g1,g2⟩:=mx h2
  cases ry
  obtain ⟨ae,r,t,_⟩:=I.list (rdL g1)
  obtain ⟨e,k1,k2⟩:=bS xs ae g2 r
  exact ⟨ae.toArray,e,l,rfl,.inl t.isList,k1,by rw [k2];exact q⟩
 ·obtain ⟨l,xs,rfl,g1,g2⟩:=mv h2
  cases ry
  obtain ⟨ae,r,t,_⟩:=I.tuple g1
  obtain ⟨e,k1,k2⟩:=bS xs ae g2 r
  exact ⟨ae.toArray,e,l,rfl,.inr t,k1,by rw [k2];exact q⟩
theorem yt (hu:X.A.units+100 < cLine):OpR X (compareOp .In) (rInD X.K false):=by
 intro aa s U H x y v u Q I rx ry h
 obtain ⟨ae,e,l,rfl,hl,he,q⟩:=uX hu I rx ry h
 rcases hl with hl | hl
 ·exact PySem.SeqAt.in_listAt e hl he ⟨.bl (ae.any e),H,I,rfl,q⟩
 ·exact PySem.SeqAt.in_tupleAt e hl he ⟨.bl (ae.any e),H,I,rfl,q⟩
theorem x9 (hu:X.A.units+100 < cLine):OpR X (compareOp .NotIn) (rInD X.K true):=by
 intro aa s U H x y v u Q I rx ry h
 obtain ⟨ae,e,l,rfl,hl,he,q⟩:=uX hu I rx ry h
 rcases hl with hl | hl
 ·exact PySem.SeqAt.notIn_listAt e hl he ⟨.bl (!ae.any e),H,I,rfl,q⟩
 ·exact PySem.SeqAt.notIn_tupleAt e hl he ⟨.bl (!ae.any e),H,I,rfl,q⟩
end
end DL
set_option exponentiation.threshold 2000
namespace DL
open PySem PySem.Spec PyProof.Rows L2
noncomputable def intF (C:Int->Int->Bool) (g:Int->Int->D) (a b:D):Option D:=match a,b with
 | .int i,.int j=>if C i j then some (g i j) else none
 | _,_=>none
theorem rL {C:Int->Int->Bool}{g:Int->Int->D}{a b d:D} (h:intF C g a b=some d):∃ i j,a=.int i/\b=.int j/\C i j=true/\d=g i j:=by
 unfold intF at h
 split at h
 ·obtain ⟨h1,h2⟩:=my h
  exact ⟨_,_,rfl,rfl,h1,h2⟩
 ·cases h
noncomputable def tt2 (_ _:Int):Bool:=true
theorem od_I {K:PySem.W.Frag}{C:Int->Int->Prop}{c:Int->Int->Bool}{g:Int->Int->Int} (hc:∀ i j,c i j=true->C i j):OpD K (rI C λi j=>.int (g i j)) (intF c λi j=>.int (g i j)):=λa b d e B G I H U Γ x y Q r hx hy k=>by
 obtain ⟨i,j,rfl,rfl,h,rfl⟩:=rL e
 exact ⟨i,j,mn hx,mn hy,hc i j h,k.now r (Is.int _)⟩
theorem AC {K:PySem.W.Frag}{g:Int->Int->Int}:OpD K (rI0 λi j=>.int (g i j)) (intF tt2 λi j=>.int (g i j)):=λa b d e B G I H U Γ x y Q r hx hy k=>by
 obtain ⟨i,j,rfl,rfl,h,rfl⟩:=rL e
 exact ⟨i,j,mn hx,mn hy,k.now r (Is.int _)⟩
theorem oU {K:PySem.W.Frag}{g:Int->Int->Bool}:OpD K (rI0 λi j=>.bl (g i j)) (intF tt2 λi j=>.bl (g i j)):=λa b d e B G I H U Γ x y Q r hx hy k=>by
 obtain ⟨i,j,rfl,rfl,h,rfl⟩:=rL e
 exact ⟨i,j,mn hx,mn hy,k.now r (Is.bl _)⟩
noncomputable def subI:D->D->Option D:=intF tt2 λi j=>.int (i - j)
noncomputable def mulI:D->D->Option D:=intF (λi j=>decide ((-(2 ^ 64) < i/\i < 2 ^ 64)\/(-(2 ^ 64) < j/\j < 2 ^ 64))) λi j=>.int (i*j)
noncomputable def modI:D->D->Option D:=intF (λ_ j=>decide (0 < j)) λi j=>.int (i % j)
noncomputable def divI:D->D->Option D:=intF (λ_ j=>decide (0 < j/\j < 2 ^ 200)) λi j=>.int (i / j)
noncomputable def powI:D->D->Option D:=intF (λi j=>decide (0<=j/\j<=1000000/\i.natAbs < 2 ^ 64)) λi j=>.int (i ^ j.toNat)
noncomputable def ltI:D->D->Option D:=intF tt2 λi j=>.bl (decide (i < j))
noncomputable def leI:D->D->Option D:=intF tt2 λi j=>.bl (decide (i<=j))
noncomputable def gtI:D->D->Option D:=intF tt2 λi j=>.bl (decide (j < i))
noncomputable def geI:D->D->Option D:=intF tt2 λi j=>.bl (decide (j<=i))
section
variable {X:Cx}{B:BB}{a b c e:Expr}{es:List Expr}{pos:Pos}{ga gb gc:M D}
theorem Ap (ha:ED X B a ga) (hb:ED X B b gb):ED X B (.BinOp a .Sub b pos) (op2 subI ga gb):=ol BY AC ha hb
theorem m7 (ha:ED X B a ga) (hb:ED X B b gb):ED X B (.BinOp a .Mult b pos) (op2 mulI ga gb):=ol Ck (od_I (C:=CMul) λi j h=>(of_decide_eq_true h:_\/_)) ha hb
theorem m9 (ha:ED X B a ga) (hb:ED X B b gb):ED X B (.BinOp a .Mod b pos) (op2 modI ga gb):=ol wG (od_I λi j h=>of_decide_eq_true h) ha hb
theorem pJ (ha:ED X B a ga) (hb:ED X B b gb):ED X B (.BinOp a .Pow b pos) (op2 powI ga gb):=ol Ad (od_I (C:=CPow) λi j h=>(of_decide_eq_true h:_/\_/\_)) ha hb
def CDivW (i j:Int):Prop:=0 < j/\j < 2 ^ 200
theorem BE:OpR X (binaryOp .FloorDiv) (rI CDivW λi j=>.int (i / j)):=opI λi j _ _ _ _ _ hc q=>by
 have h1:(0:Int) < j:=hc.1
 have h2:j.natAbs < 2 ^ 200:=by
  have:=hc.2
  omega
 have h4:j.natAbs.log2 < 9000:=by
  have h5:j.natAbs.log2 < 200:=(Nat.log2_lt (by omega)).mpr h2
  omega
 refine floordiv_int (by omega) ?_ (.inl (PyProof.noPylong_of_log2 h4))
 rw [Int.fdiv_eq_ediv_of_nonneg _ (Int.le_of_lt h1)]
 exact q
theorem z0 (ha:ED X B a ga) (hb:ED X B b gb):ED X B (.BinOp a .FloorDiv b pos) (op2 divI ga gb):=ol BE (od_I (C:=CDivW) λi j h=>(of_decide_eq_true h:_/\_)) ha hb
theorem xw (ha:ED X B a ga) (hb:ED X B b gb):ED X B (.Compare a [.Gt] [b] pos) (op2 gtI ga gb):=sY BH oU ha hb
theorem uI (ha:ED X B a ga) (hb:ED X B b gb):TD X B (.Compare a [.Lt] [b] pos) (tst (op2 ltI ga gb)):=nL tK oU ha hb
theorem v6 (ha:ED X B a ga) (hb:ED X B b gb):TD X B (.Compare a [.GtE] [b] pos) (tst (op2 geI ga gb)):=nL Al oU ha hb
theorem qX (ha:ED X B a ga) (hb:ED X B b gb) (hc:ED X B c gc) (hm:lastMarks [.LtE,.Lt] [b,c]=false:=by with_unfolding_all rfl):TD X B (.Compare a [.LtE,.Lt] [b,c] pos) (tst (chn leI ltI ga gb gc)):=y0 yL oU tK oU ha hb hc hm
noncomputable def eqF (neg:Bool) (a b:D):Option D:=if dep a<=100/\dep b<=100 then some (.bl (if neg then !deq a b else deq a b)) else none
theorem qY {K:PySem.W.Frag}{neg:Bool}:OpD K (rEqD K neg) (eqF neg):=λa b d e B G I H U Γ x y Q r hx hy k=>by
 obtain ⟨h1,rfl⟩:=my e
 exact ⟨a,b,hx.mono r.iH,hy.mono r.iH,h1,k.now r (Is.bl _)⟩
variable {kr:Nat}
theorem hu100 {A:Around}{k:Nat} (hr:Room k A):A.units+100 < cLine:=by have:=hr.un;omega
theorem yj (hr:Room kr X.A) (ha:ED X B a ga) (hb:ED X B b gb):ED X B (.Compare a [.Eq] [b] pos) (op2 (eqF false) ga gb):=sY (vp (hu100 hr)) qY ha hb
theorem ny (hr:Room kr X.A) (ha:ED X B a ga) (hb:ED X B b gb):TD X B (.Compare a [.Eq] [b] pos) (tst (op2 (eqF false) ga gb)):=nL (vp (hu100 hr)) qY ha hb
theorem oq (hr:Room kr X.A) (ha:ED X B a ga) (hb:ED X B b gb):TD X B (.Compare a [.NotEq] [b] pos) (tst (op2 (eqF true) ga gb)):=nL (yd (hu100 hr)) qY ha hb
noncomputable def inF (neg:Bool) (a b:D):Option D:=match seqI b with
 | some ds=>if dep a<=99/\depA ds<=99 then some (.bl (if neg then !ds.any (λd=>deq d a) else ds.any λd=>deq d a)) else none
 | none=>none
theorem sV {K:PySem.W.Frag}{neg:Bool}:OpD K (rInD K neg) (inF neg):=λa b d e B G I H U Γ x y Q r hx hy k=>by
 unfold inF at e
 cases b with
 | lst ds =>
  obtain ⟨h1,rfl⟩:=my e
  exact ⟨a,ds,hx.mono r.iH,.inl (hy.mono r.iH),h1,k.now r (Is.bl _)⟩
 | tup ds =>
  obtain ⟨h1,rfl⟩:=my e
  exact ⟨a,ds,hx.mono r.iH,.inr (hy.mono r.iH),h1,k.now r (Is.bl _)⟩
 | _=>cases e
theorem xm (hr:Room kr X.A) (ha:ED X B a ga) (hb:ED X B b gb) (hm:behindInMarks .In b=false:=by rfl):TD X B (.Compare a [.In] [b] pos) (tst (op2 (inF false) ga gb)):=nL (yt (hu100 hr)) sV ha hb hm
theorem rP (hr:Room kr X.A) (ha:ED X B a ga) (hb:ED X B b gb) (hm:behindInMarks .NotIn b=false:=by rfl):TD X B (.Compare a [.NotIn] [b] pos) (tst (op2 (inF true) ga gb)):=nL (x9 (hu100 hr)) sV ha hb hm
noncomputable def rCatTT (K:PySem.W.Frag):R2:=λx y H Q=>∃ a b xs ys,x=.ref a/\y=.ref b/\SqT K H a xs/\SqT K H b ys/\xs.length+ys.length<=sizeLine ∧
 (xs=[]->Q (.ref b) H)/\(xs≠[]->ys=[]->Q (.ref a) H)/\(xs≠[]->ys≠[]->∀ p,H p=none->Q (.ref p) (upd H p (.tup (xs++ys))))
theorem yf:OpR X (binaryOp .Add) (rCatTT X.K):=by
 intro aa s U H x y v u Q I rx ry h
 obtain ⟨a,b,xs,ys,rfl,rfl,ha,hb,hz,q0,q1,q2⟩:=h
 cases rx
 cases ry
 obtain ⟨ae,r1,p1,_⟩:=I.tuple ha
 obtain ⟨bn,r2,p2,_⟩:=I.tuple hb
 by_cases hx:xs=[]
 ·subst hx
  cases r1
  obtain ⟨⟨cls,dd,data,sl⟩,ho,hc,n,hd⟩:=id p1
  obtain ⟨⟨iw,eN,data2,eO⟩,cx,bZ,n2,cb⟩:=id p2
  simp only at hc hd bZ cb
  subst hc hd bZ cb
  exact concat_meets ⟨_,ho,rfl⟩ ⟨_,cx,rfl⟩ noFill_tuple_add seq_tuple_add slot_tuple_add entry_tuple_add (args_tuple_add_2 _ _)
   (tuple_addW0 a b _ bn.toArray n n2 dd eN sl eO (by simp)) ⟨ho,cx,⟨.ref b,H,I,rfl,q0 rfl⟩⟩
 ·exact xW aa s U H (.ref a) (.ref b) _ _ Q I rfl rfl ⟨a,b,xs,ys,rfl,rfl,ha,hb,hx,hz,q1 hx,q2 hx⟩
noncomputable def addF (a b:D):Option D:=match a,b with
 | .int i,.int j=>some (.int (i+j))
 | .tup xs,.tup ys=>if xs.length+ys.length<=lim then some (.tup (xs++ys)) else none
 | .str x,.str y=>if x.length+y.length<=lim then some (.str (x++y)) else none
 | _,_=>none
theorem IsA.ne_nil {K:PySem.W.Frag}{I:Hp}{ds:List D}{xs:List V} (h:IsA K I ds xs):xs=[]↔ds=[]:=by
 have:=h.length
 constructor
 ·intro e;subst e;exact List.length_eq_zero_iff.mp this
 ·intro e;subst e;exact List.length_eq_zero_iff.mp this.symm
theorem mK (ha:ED X B a ga) (hb:ED X B b gb):ED X B (.BinOp a .Add b pos) (op2 addF ga gb):=ol ((wz.or yf).or zx) (λa b d e B G I H U Γ x y Q r hx hy k=>by
 unfold addF at e
 split at e
 ·cases e
  exact .inl (.inl ⟨_,_,mn hx,mn hy,k.now r (Is.int _)⟩)
 ·obtain ⟨hl,rfl⟩:=my e
  obtain ⟨p,xs,rfl,h1,h2⟩:=mv hx
  obtain ⟨q,ys,rfl,h3,h4⟩:=mv hy
  refine .inl (.inr ⟨p,q,xs,ys,rfl,rfl,Same.sqT r.iH h1,Same.sqT r.iH h3,by rw [← h2.length,← h4.length];exact nS hl,λz=>?_,λ_ z=>?_,λ_ _ p' hp=>k.tup r hp (IsA.append h2 h4)⟩)
  ·have:=h2.ne_nil.mp z
   subst this
   exact k.now r (Is.tup h3 h4)
  ·have:=h4.ne_nil.mp z
   subst this
   rw [append_nil] at k
   exact k.now r (Is.tup h1 h2)
 ·obtain ⟨hl,rfl⟩:=my e
  exact .inr ⟨_,_,mU hx,mU hy,nS hl,k.now r (Is.str _)⟩
 ·cases e) ha hb
noncomputable def rCatR (K:PySem.W.Frag):R2:=λx y H Q=>∃ l b xs zs,x=.ref l/\y=.ref b/\RdK K H l xs/\RdK K H b zs/\xs.length+zs.length<=sizeLine/\∀ p,H p=none->Q (.ref p) (upd H p (.lst (xs++zs)))
theorem Bv:OpR X (binaryOp .Add) (rCatR X.K):=by
 intro aa s U H x y v u Q I rx ry h
 obtain ⟨l,b,xs,zs,rfl,rfl,hH,hB,hz,q⟩:=h
 cases rx
 cases ry
 obtain ⟨z,ae,n,r,hl,e⟩:=qU I hH
 obtain ⟨z2,bn,n2,r2,cz,e2⟩:=qU I hB
 refine PySem.P.add_list e e2 ?_ (by rw [size_toArray,size_toArray];omega)
 have ea:ae.toArray++bn.toArray=(ae++bn).toArray:=by simp
 rw [ea]
 exact ⟨.ref _,_,I.lnew (t':=s.toks) (r.append r2) (by rw [length_append];omega),rfl,q _ I.fresh⟩
noncomputable def catF (a b:D):Option (List D):=match a,b with
 | .lst xs,.lst ys=>if xs.length+ys.length<=lim then some (xs++ys) else none
 | _,_=>none
theorem ow (ha:ED X B a ga) (hb:ED X B b gb):EO X B (.BinOp a .Add b pos) (op2 catF ga gb):=xb Bv (λa b d e B G I H U Γ x y Q r hx hy k=>by
 unfold catF at e
 split at e
 ·obtain ⟨hl,rfl⟩:=my e
  obtain ⟨p,xs,rfl,h1,h2⟩:=mx hx
  obtain ⟨q,ys,rfl,h3,h4⟩:=mx hy
  exact ⟨p,q,xs,ys,rfl,rfl,Same.rdK r.iH h1,Same.rdK r.iH h3,by rw [← h2.length,← h4.length];exact nS hl,λp' hp=>k.new r hp (IsA.append h2 h4)⟩
 ·cases e) ha hb
theorem IsA.at {K:PySem.W.Frag}{I:Hp}{ds:List D}{xs:List V}{i:Int}{d:D} (h:IsA K I ds xs) (e:atI ds i=some d):∃ x,atI xs i=some x/\Is K I d x:=by
 unfold atI at e ⊢
 rw [← h.length]
 cases hj:ixN ds.length i with
 | none=>rw [hj] at e;cases e
 | some j =>
  rw [hj] at e
  exact h.get e
noncomputable def ixF (a b:D):Option D:=match seqI a,asI b with
 | some ds,some i=>atI ds i
 | _,_=>none
theorem u7 {a b d:D} (h:ixF a b=some d):∃ ds i,(a=.lst ds\/a=.tup ds)/\b=.int i/\atI ds i=some d:=by
 unfold ixF at h
 cases a<;>cases b<;>simp [seqI,asI] at h
 ·exact ⟨_,_,.inr rfl,rfl,h⟩
 ·exact ⟨_,_,.inl rfl,rfl,h⟩
theorem mE (ha:ED X B a ga) (hb:ED X B b gb) (hs:PlainIx b:=by exact λ_ _=>rfl):ED X B (.Subscript a b pos) (op2 ixF ga gb):=yR (vK.or yS) (λa b d e B G I H U Γ x y Q r hx hy k=>by
 obtain ⟨ds,i,h1,rfl,h2⟩:=u7 e
 rcases h1 with rfl | rfl
 ·obtain ⟨p,xs,rfl,h3,h4⟩:=mx hx
  obtain ⟨v,e5,e6⟩:=h4.at h2
  exact .inl ⟨p,xs,i,v,rfl,mn hy,(Same.rdK r.iH h3).sq,e5,k.now r e6⟩
 ·obtain ⟨p,xs,rfl,h3,h4⟩:=mv hx
  obtain ⟨v,e5,e6⟩:=h4.at h2
  exact .inr ⟨p,xs,i,v,rfl,mn hy,Same.sqT r.iH h3,e5,k.now r e6⟩) ha hb hs
noncomputable def look (i:Nat):M D:=λΓ=>match Γ[i]? with
 | some (some (.own ds))=>some (.lst ds,Γ)
 | some (some (.bor ds))=>some (.lst ds,Γ)
 | _=>none
theorem xy {K:PySem.W.Frag}{G I H:Hp}{U:L2.St}{Γ ac:Gm}{i:Nat}{d:D} (h:look i Γ=some (d,ac)) (r:Rep K B G I H U Γ):ac=Γ/\∃ p xs ds,d=.lst ds/\U[i]?=some (some (.ref p))/\H p=some (.lst xs)/\IsA K I ds xs:=by
 unfold look at h
 cases e:Γ[i]? with
 | none=>rw [e] at h;cases h
 | some o =>
  cases o with
  | none=>rw [e] at h;cases h
  | some q =>
   rw [e] at h
   obtain ⟨v,h1,h2⟩:=r.slot i q e
   cases q with
   | val _=>cases h
   | own ds=>cases h;obtain ⟨p,xs,rfl,g1,_,_,g4⟩:=h2;exact ⟨rfl,p,xs,ds,rfl,h1,g1,g4⟩
   | fro ds=>cases h
   | dic ds=>cases h
   | bor ds=>cases h;obtain ⟨p,xs,rfl,g1,_,_,g4⟩:=h2;exact ⟨rfl,p,xs,ds,rfl,h1,g1,g4⟩
noncomputable def atN (i:Nat) (g:M D):M D:=mutS i (bnd g λn=>bnd (look i) λl=>lft (ixF l n))
theorem nr {i:Nat}{x:Str}{p1:Pos} (hv:PE X (.Name x p1) (tVar i)) (hb:ED X B b gb) (hs:PlainIx b:=by exact λ_ _=>rfl):ED X B (.Subscript (.Name x p1) b pos) (atN i gb):=PE.imp (tu vK hv hb hs) λU H Q q=>by
 obtain ⟨G,I,Γ,d,ac,r,e1,k⟩:=q
 obtain ⟨hm,e1⟩:=ou e1
 obtain ⟨n,Γ1,e2,e3⟩:=i' e1
 obtain ⟨l,ai,e4,e5⟩:=i' e3
 obtain ⟨e6,rfl⟩:=mr e5
 obtain ⟨p,xs,h1,h2⟩:=oo hm r
 refine ⟨_,h1,G,I,Γ,n,Γ1,r,e2,λv H1 I1 r1 g1 hn=>?_⟩
 obtain ⟨rfl,p',aV,ds,rfl,f1,f2,f3⟩:=xy e4 r1
 have hp:p'=p:=by rw [h1] at f1;cases f1;rfl
 subst hp
 obtain ⟨iE,j,g2,rfl,g3⟩:=u7 e6
 rcases g2 with g2 | g2
 ·cases g2
  obtain ⟨y,e7,e8⟩:=f3.at g3
  exact ⟨p',aV,j,y,rfl,mn hn,SqL.of f2,e7,(k.after g1).now r1 e8⟩
 ·cases g2
noncomputable def lenF (ds:List D):Option D:=match ds with
 | [.lst xs]=>some (.int xs.length)
 | [.tup xs]=>some (.int xs.length)
 | _=>none
theorem xp {ds:List D}{d:D} (h:lenF ds=some d):∃ xs,(ds=[.lst xs]\/ds=[.tup xs])/\d=.int xs.length:=by
 unfold lenF at h
 split at h
 ·cases h;exact ⟨_,.inl rfl,rfl⟩
 ·cases h;exact ⟨_,.inr rfl,rfl⟩
 ·cases h
theorem qN {p:Pos}{t:M (List D)} (hg:Gl X "len") (hm:X.mg "len"=none) (ha:AD X B [e] t) (he:starEach [e] X.env=(false,eval e X.env)::starEach [] X.env:=by rfl) (az:(backTo pos (starEach [] X.env)).any (·.1)=false:=by rfl) :
  ED X B (.Call (.Name "len" p) [e] [] pos) (fn1 lenF t):=pG Ch (λds d e B G I H U Γ xs Q r h k=>by
 obtain ⟨ys,h1,rfl⟩:=xp e
 rcases h1 with rfl | rfl
 ·obtain ⟨x,rfl,hx⟩:=h.one
  obtain ⟨q,zs,rfl,h3,h4⟩:=mx hx
  exact ⟨q,zs,rfl,.inl ((Same.rdK r.iH h3).sq),by rw [h4.length] at k;exact k.now r (Is.int _)⟩
 ·obtain ⟨x,rfl,hx⟩:=h.one
  obtain ⟨q,zs,rfl,h3,h4⟩:=mv hx
  exact ⟨q,zs,rfl,.inr (Same.sqT r.iH h3),by rw [h4.length] at k;exact k.now r (Is.int _)⟩) hg hm PySem.boot_len ha (by decide) (by decide) he az
def partD (e:Option Expr) (X:Cx) (B:BB) (g:M (Option Int)):Prop:=PO X e (λU H Q=>∃ G I Γ o ac,Rep X.K B G I H U Γ/\g Γ=some (o,ac)/\∀ H' I',Rep X.K B G I' H' U ac->Grow G I I'->Q o H')
theorem v8:partD none X B (ret none):=λaa s U H Q I h=>AF aa s U H Q I (by
 obtain ⟨G,I,Γ,o,ac,r,e1,k⟩:=h
 cases e1
 exact k _ _ r (Grow.refl _ _))
noncomputable def prt (g:M D):M (Option Int):=bnd g λd=>bnd (lft (asI d)) λi=>ret (some i)
theorem pN (ha:ED X B a ga):partD (some a) X B (prt ga):=λaa s U H Q I h=>wX ha aa s U H Q I (by
 obtain ⟨G,I,Γ,o,ac,r,e1,k⟩:=h
 obtain ⟨d,Γ1,e2,e3⟩:=i' e1
 obtain ⟨i,ai,e4,e5⟩:=i' e3
 cases e5
 obtain ⟨e6,rfl⟩:=mr e4
 have:=ut e6
 subst this
 exact ⟨G,I,Γ,_,_,r,e2,λv H1 I1 r1 g1 hv=>⟨i,mn hv,k _ _ r1 g1⟩⟩)
noncomputable def cutD (ds:List D) (lo hi:Option Int):List D:=(ds.drop (HT.sIx ds.length 0 lo)).take (HT.sIx ds.length ds.length hi - HT.sIx ds.length 0 lo)
theorem IsA.cut {K:PySem.W.Frag}{I:Hp}{ds:List D}{xs:List V} (h:IsA K I ds xs) (lo hi:Option Int):IsA K I (cutD ds lo hi) (cutV xs lo hi):=by
 unfold cutD cutV
 rw [← h.length]
 exact (h.drop _).take _
noncomputable def slF (d:D) (lo hi:Option Int):Option D:=match d with
 | .lst ds=>some (.lst (cutD ds lo hi))
 | .tup ds=>if HT.sIx ds.length 0 lo=0/\HT.sIx ds.length ds.length hi=ds.length then none else some (.tup (cutD ds lo hi))
 | _=>none
noncomputable def sl3 {α:Type} (F:D->Option Int->Option Int->Option α) (g:M D) (gl gh:M (Option Int)):M α:=bnd g λd=>bnd gl λl=>bnd gh λh=>lft (F d l h)
theorem sx {lo hi:Option Expr}{p2:Pos}{gl gh:M (Option Int)} (ha:ED X B a ga) (hl:partD lo X B gl) (hh:partD hi X B gh):ED X B (.Subscript a (.Slice lo hi none p2) pos) (sl3 slF ga gl gh):=PE.imp (ze (xf.or BK) ha hl hh) λU H Q q=>by
 obtain ⟨G,I,Γ,d,ac,r,e1,k⟩:=q
 obtain ⟨c,Γ1,e2,e3⟩:=i' e1
 obtain ⟨l,ai,e4,e5⟩:=i' e3
 obtain ⟨h,aF,e6,e7⟩:=i' e5
 obtain ⟨e8,rfl⟩:=mr e7
 refine ⟨G,I,Γ,c,Γ1,r,e2,λv H1 I1 r1 g1 hv=>⟨G,I1,Γ1,l,ai,r1,e4,λH2 I2 r2 g2=>⟨G,I2,ai,h,_,r2,e6,λH3 I3 r3 g3=>?_⟩⟩⟩
 have gg:=g1.trans (g2.trans g3)
 have iR:=hv.mono (g2.trans g3).up
 cases c with
 | lst ds =>
  cases e8
  obtain ⟨p,xs,rfl,h3,h4⟩:=mx iR
  refine .inl ⟨p,xs,rfl,(Same.rdK r3.iH h3).sq,λp' hp=>?_⟩
  exact (k.after gg) _ _ _ (r3.alloc hp _) (r3.growAlloc hp _) (Is.lst (RdK.of mq) ((h4.cut l h).mono (mG (r3.iFree hp) _)))
 | tup ds =>
  unfold slF at e8
  by_cases hw:HT.sIx ds.length 0 l=0/\HT.sIx ds.length ds.length h=ds.length
  ·simp only [hw,and_self,if_true] at e8;cases e8
  ·simp only [if_neg hw] at e8;cases e8
   obtain ⟨p,xs,rfl,h3,h4⟩:=mv iR
   exact .inr ⟨p,xs,rfl,Same.sqT r3.iH h3,by rw [← h4.length];exact hw,λp' hp=>(k.after gg).tup r3 hp (h4.cut l h)⟩
 | _=>cases e8
noncomputable def tupF (ds:List D):Option D:=match ds with
 | [.lst xs]=>some (.tup xs)
 | [.tup xs]=>some (.tup xs)
 | _=>none
noncomputable def lstF (ds:List D):Option (List D):=match ds with
 | [.lst xs]=>some xs
 | [.tup xs]=>some xs
 | _=>none
theorem BQ {p:Pos}{t:M (List D)} (hg:Gl X "tuple") (hm:X.mg "tuple"=none) (ha:AD X B [e] t) (he:starEach [e] X.env=(false,eval e X.env)::starEach [] X.env:=by rfl) (az:(backTo pos (starEach [] X.env)).any (·.1)=false:=by rfl) :
  ED X B (.Call (.Name "tuple" p) [e] [] pos) (fn1 tupF t):=uM yO (λds d e B G I H U Γ xs Q r h k=>by
 unfold tupF at e
 split at e
 ·cases e
  obtain ⟨x,rfl,hx⟩:=h.one
  obtain ⟨q,zs,rfl,h3,h4⟩:=mx hx
  exact ⟨q,zs,rfl,.inl ⟨(Same.rdK r.iH h3).sq,λp' hp=>k.tup r hp h4⟩⟩
 ·cases e
  obtain ⟨x,rfl,hx⟩:=h.one
  obtain ⟨q,zs,rfl,h3,h4⟩:=mv hx
  exact ⟨q,zs,rfl,.inr ⟨Same.sqT r.iH h3,k.now r (Is.tup h3 h4)⟩⟩
 ·cases e) hg hm boot_tuple ha (by decide) (by decide) he az
theorem zq {p:Pos}{t:M (List D)} (hg:Gl X "list") (hm:X.mg "list"=none) (ha:AD X B [e] t) (he:starEach [e] X.env=(false,eval e X.env)::starEach [] X.env:=by rfl) (az:(backTo pos (starEach [] X.env)).any (·.1)=false:=by rfl) :
  EO X B (.Call (.Name "list" p) [e] [] pos) (fn1 lstF t):=wg yb (λds d e B G I H U Γ xs Q r h k=>by
 unfold lstF at e
 split at e
 ·cases e
  obtain ⟨x,rfl,hx⟩:=h.one
  obtain ⟨q,zs,rfl,h3,h4⟩:=mx hx
  exact ⟨q,zs,rfl,.inl ((Same.rdK r.iH h3).sq),λp' hp=>k.new r hp h4⟩
 ·cases e
  obtain ⟨x,rfl,hx⟩:=h.one
  obtain ⟨q,zs,rfl,h3,h4⟩:=mv hx
  exact ⟨q,zs,rfl,.inr (Same.sqT r.iH h3),λp' hp=>k.new r hp h4⟩
 ·cases e) hg hm boot_list ha (by decide) (by decide) he az
noncomputable def isN (d:D):Bool:=match d with
 | .non=>true
 | _=>false
noncomputable def isNF (neg:Bool) (a b:D):Option D:=match b with
 | .non=>some (.bl (if neg then !isN a else isN a))
 | _=>none
theorem vF {K:PySem.W.Frag}{I:Hp}{a:D}{x:V} (h:Is K I a x):decide (x=V.non)=isN a:=by
 cases a with
 | non=>rw [mV h];rfl
 | bl _=>rw [mP h];rfl
 | int _=>rw [mn h];rfl
 | str _=>rw [mU h];rfl
 | tup _=>obtain ⟨_,_,rfl,_⟩:=mv h;rfl
 | lst _=>obtain ⟨_,_,rfl,_⟩:=mx h;rfl
 | exc _ _=>obtain ⟨_,_,rfl,_⟩:=qy h;rfl
theorem AX {K:PySem.W.Frag}:OpD K (λx y H Q=>y=.non/\Q (.bl (decide (x=.non))) H) (isNF false):=λa b d e B G I H U Γ x y Q r hx hy k=>by
 unfold isNF at e
 split at e
 ·cases e;exact ⟨mV hy,by rw [vF hx];exact k.now r (Is.bl _)⟩
 ·cases e
theorem yl {K:PySem.W.Frag}:OpD K (λx y H Q=>y=.non/\Q (.bl (!decide (x=.non))) H) (isNF true):=λa b d e B G I H U Γ x y Q r hx hy k=>by
 unfold isNF at e
 split at e
 ·cases e;exact ⟨mV hy,by rw [vF hx];exact k.now r (Is.bl _)⟩
 ·cases e
theorem zv (ha:ED X B a ga) (hb:ED X B b gb):TD X B (.Compare a [.Is] [b] pos) (tst (op2 (isNF false) ga gb)):=nL yz AX ha hb
theorem xN (ha:ED X B a ga) (hb:ED X B b gb):TD X B (.Compare a [.IsNot] [b] pos) (tst (op2 (isNF true) ga gb)):=nL Bq yl ha hb
end
structure Kd where
 it:Heap->Addr->Addr->Nat->Prop
 sq:Heap->Addr->Array Value->Prop
 nm:String
structure KdOk (k:Kd):Prop where
 itAt:∀ {h h':Heap}{i l:Addr}{n:Nat},k.it h i l n->(∀ o,h.get? i=some o->h'.get? i=some o)->k.it h' i l n
 sqAt:∀ {h h':Heap}{l:Addr}{xs:Array Value},k.sq h l xs->(∀ o,h.get? l=some o->h'.get? l=some o)->k.sq h' l xs
 itLt:∀ {h:Heap}{i l:Addr}{n:Nat},k.it h i l n->i < h.objs.size
 sqLt:∀ {h:Heap}{l:Addr}{xs:Array Value},k.sq h l xs->l < h.objs.size
 itObj:∀ {h:Heap}{i l:Addr}{n:Nat},k.it h i l n->∃ o,h.get? i=some o/\∀ v,o.data≠.cell v
 iter:∀ {prog:Program}{w:World}{A:Around}{E:Value->Shared->Prop}{s:Shared}{l:Addr}{xs:Array Value}{Q:Value->Shared->Prop},k.sq s.heap l xs →
  Q (.ref s.heap.objs.size) { s with heap:=s.heap.push { cls:=.type k.nm,data:=.fields #[.ref l,.int 0 0] } }->wpAny (model prog w) A (pyIter (.ref l)) Q E s
 new:∀ {h:Heap}{l:Addr},k.it (h.push { cls:=.type k.nm,data:=.fields #[.ref l,.int 0 0] }) h.objs.size l 0
 item:∀ {prog:Program}{w:World}{A:Around}{E:Value->Shared->Prop}{s:Shared}{i l:Addr}{n:Nat}{xs:Array Value}{x:Value}{Q:Value->Shared->Prop},k.it s.heap i l n->k.sq s.heap l xs->xs[n]?=some x →
  (∀ h',k.it h' i l (n+1)->Heap.SameBut i s.heap h'->Q x { s with heap:=h' })->wpAny (model prog w) A (nextOf (.ref i)) Q E s
 stop:∀ {prog:Program}{w:World}{A:Around}{E:Value->Shared->Prop}{s:Shared}{i l:Addr}{n:Nat}{xs:Array Value}{Q:Value->Shared->Prop},A.handled=none->k.it s.heap i l n->k.sq s.heap l xs->xs[n]?=none →
  (∀ h' e,Heap.ExtBut i s.heap h'->(∃ o,h'.get? e=some o/\o.cls=.type "StopIteration")->E (.ref e) { s with heap:=h' })->wpAny (model prog w) A (nextOf (.ref i)) Q E s
noncomputable def kdL:Kd:=⟨λh i l n=>h.IsListIter i l n,λh l xs=>h.IsList l xs, "list_iterator"⟩
noncomputable def kdT:Kd:=⟨λh i l n=>h.IsTupleIter i l n,λh l xs=>h.IsTuple l xs, "tuple_iterator"⟩
theorem uV:KdOk kdL where
 itAt:=λh k=>h.at k
 sqAt:=λh k=>h.at k
 itLt:=λh=>by obtain ⟨_,e,_⟩:=h;exact lt_size e
 sqLt:=λh=>by obtain ⟨_,e,_⟩:=h;exact lt_size e
 itObj:=λh=>by obtain ⟨o,e,_,d⟩:=h;exact ⟨o,e,λv z=>by rw [d] at z;cases z⟩
 iter:=λh q=>wpAny_pyIter_list h q
 new:=⟨_,get?_push_size _ rfl,rfl,rfl⟩
 item:=λh1 h2 h3 q=>wpAny_nextOf_list_item h1 h2 h3 q
 stop:=λhh h1 h2 h3 q=>wpAny_nextOf_list_end hh h1 h2 h3 q
section
variable {prog:Program}{w:World}{A:Around}{E:Value->Shared->Prop}{s:Shared}
theorem zd {α:Type}{Q:α->Shared->Prop} (hh:A.handled=none)
  (k:∀ (g:Heap) (x:Addr),(∀ b o,s.heap.get? b=some o->g.get? b=some o)->(∃ o,g.get? x=some o/\o.cls=.type "StopIteration")->E (.ref x) { s with heap:=g }) :
  wpAny (model prog w) A (stopIteration (α:=α)) Q E s:=by
 unfold stopIteration newExc newTuple
 refine wpAny_bind (wpAny_bind (wpAny_newObj_type (wpAny_bind (wpAny_of_eq (a:=Value.none) (by first | rfl | (simp only [firstArgMember];rfl)) (wpAny_newObj_type ?_ (by size_fits)))) (by size_fits)))
 unfold raiseNew
 refine wpAny_bind (wpAny_handled ?_)
 rw [hh]
 exact wpAny_bind (wpAny_pure (wpAny_throw (k _ _ (λb o e=>get?_push_of_some _ (get?_push_of_some _ e)) ⟨_,get?_push_size _ rfl,rfl⟩)))
theorem vg {bc tp:Addr}{i:Nat}{cells:Array Value}{Q:Value->Shared->Prop} (hi:s.heap.IsTupleIter bc tp i) (hT:s.heap.IsTuple tp cells)
  (one:∀ v,cells[i]?=some v->∀ g:Heap,g.IsTupleIter bc tp (i+1)->Heap.SameBut bc s.heap g->Q v { s with heap:=g })
  (non:cells[i]?=none->A.handled=none/\∀ (g:Heap) (x:Addr),Heap.ExtBut bc s.heap g->(∃ o,g.get? x=some o/\o.cls=.type "StopIteration")->E (.ref x) { s with heap:=g }) :
  wpAny (model prog w) A (nextOf (.ref bc)) Q E s:=by
 have ty:=hi.typeIs
 obtain ⟨oi,gi,ci,di⟩:=hi
 obtain ⟨ot,gt,ct,nt,dt⟩:=hT
 unfold nextOf
 refine wpAny_bind (wpAny_callSpecial?_slot (name:=ofString "__next__") ty F.slot_tuple_iterator_next (wpAny_call_entry F.slot_tuple_iterator_next ty F.entry_tuple_iterator_next ?_ (F.args_tuple_iterator_next_1 _)))
 refine wpAny_bind (wpAny_of_eq (a:=(Value.ref bc,[])) rfl ?_)
 refine wpAny_bind (wpAny_field (i:=0) gi di (x:=.ref tp) rfl (wpAny_ite_split (λno=>absurd no Bool.false_ne_true) λ_=>?_))
 refine wpAny_bind (wpAny_field (i:=1) gi di (x:=.int i 0) rfl (wpAny_bind (wpAny_seqItems gt dt ?_)))
 dsimp only
 rw [Int.toNat_natCast]
 cases hv:cells[i]? with
 | some v =>
  refine wpAny_bind (wpAny_setField gi di (by simp) (wpAny_pure ⟨v,rfl,wpAny_pure (one v hv _ ?_ (Heap.SameBut.update ..))⟩))
  have bK:=Obj.data_mapFields di
  exact ⟨_,Heap.get?_update_self _ gi (Obj.isFreed_of_fields (bK _)),(Obj.cls_mapFields ..).trans ci,by rw [bK];simp [rawInt]⟩
 | none =>
  obtain ⟨hh,k⟩:=non hv
  refine wpAny_bind (wpAny_rule (wpAny_bind (wpAny_setField gi di (by simp) (zd hh λg x keep is=>k g x (λb o ne e=>keep b o ((Heap.SameBut.update ..).extBut b o ne e)) is))))
end
theorem sZ:KdOk kdT where
 itAt:=λh k=>by obtain ⟨o,e,r⟩:=h;exact ⟨o,k o e,r⟩
 sqAt:=λh k=>by obtain ⟨o,e,r⟩:=h;exact ⟨o,k o e,r⟩
 itLt:=λh=>by obtain ⟨_,e,_⟩:=h;exact lt_size e
 sqLt:=λh=>by obtain ⟨_,e,_⟩:=h;exact lt_size e
 itObj:=λh=>by obtain ⟨o,e,_,d⟩:=h;exact ⟨o,e,λv z=>by rw [d] at z;cases z⟩
 iter:=λh q=>wpAny_pyIter_tuple h q
 new:=⟨_,get?_push_size _ rfl,rfl,rfl⟩
 item:=λh1 h2 h3 q=>vg h1 h2 (λv e g=>by rw [h3] at e;cases e;exact q g) λe=>by rw [h3] at e;cases e
 stop:=λhh h1 h2 h3 q=>vg h1 h2 (λv e=>by rw [h3] at e;cases e) λ_=>⟨hh,q⟩
theorem uO {X:Cx}{aa:List (Addr×Obj)}{U:L2.St}{H:Hp}{s:Shared}{h':Heap}{t':Nat}{ch:List Addr}{T:Addr}{o:HO} (I:Inv X aa U H s) (aH:∀ b∈ch,FpOk X aa H b) (k:∀ b u,b∉ch->s.heap.get? b=some u->h'.get? b=some u)
  (hT:s.heap.objs.size<=T) (new:ObjOk X.prog X.w (upd H T o) h' T o):Inv X aa U (upd H T o) { s with heap:=h',toks:=t' }:=by
 have hf:=I.hok.fresh hT
 have ne:∀ {b u},H b=some u->b≠T:=λ{b u} e=>nu e hf
 have bu:∀ {b u},H b=some u->b∉ch:=λ{b u} e z=>by have:=(aH b z).1;rw [e] at this;cases this
 refine I.step (g':=s.gens) (d':=s.drawn) (ch:=ch) (λb hb=>⟨(aH b hb).2.2.2.1,(aH b hb).2.1,(aH b hb).2.2.2.2.1,(aH b hb).2.2.2.2.2⟩) (λb u _ _ hc e _=>k b u hc e) (λb u _ _ hc e _=>⟨u.slots,k b u hc e⟩) (λb u hc e n=>?_)
  (λb u hc e=>⟨u,k b u hc e⟩) (λb xs e=>by rw [ma (ne e)];exact e) (λb u v e=>by rw [ma (ne e)];exact e) (λb ps e=>⟨#[],by rw [ma (ne e),e];simp⟩) (λm hm=>?_) (λb u e=>?_) I.bare
 ·have nb:b≠T:=λz=>by have:=lt_size e;rw [z] at this;exact absurd (lt_of_lt_of_le this hT) (lt_irrefl _)
  rw [ma nb];exact n
 ·obtain ⟨ob,es,ep,ho,r⟩:=hm
  exact ⟨ob,es,ep,k _ ob (λz=>(aH _ z).2.1 rfl) ho,r⟩
 ·by_cases hb:b=T
  ·subst hb;rw [mq] at e;cases e;exact new
  ·rw [ma hb] at e
   refine (I.hok b u e).stay (λc v hc q=>k c v ?_ q) (λc q=>by rw [ma (ne q)];exact q) λc xs q=>by rw [ma (ne q)];exact q
   rcases hc with z | z
   ·rw [z];exact bu e
   ·exact bu z
theorem v3 {X:Cx}{aa:List (Addr×Obj)}{U:L2.St}{H:Hp}{s:Shared}{h':Heap}{t':Nat}{ch:List Addr} (I:Inv X aa U H s) (aH:∀ b∈ch,FpOk X aa H b) (k:∀ b u,b∉ch->s.heap.get? b=some u->h'.get? b=some u):Inv X aa U H { s with heap:=h',toks:=t' }:=by
 have bu:∀ {b u},H b=some u->b∉ch:=λ{b u} e z=>by have:=(aH b z).1;rw [e] at this;cases this
 refine I.step (g':=s.gens) (d':=s.drawn) (ch:=ch) (λb hb=>⟨(aH b hb).2.2.2.1,(aH b hb).2.1,(aH b hb).2.2.2.2.1,(aH b hb).2.2.2.2.2⟩) (λb u _ _ hc e _=>k b u hc e) (λb u _ _ hc e _=>⟨u.slots,k b u hc e⟩) (λb u hc e n=>n)
  (λb u hc e=>⟨u,k b u hc e⟩) (λb xs e=>e) (λb u v e=>e) (λb ps e=>⟨#[],by rw [e];simp⟩) (λm hm=>?_) (λb u e=>?_) I.bare
 ·obtain ⟨ob,es,ep,ho,r⟩:=hm
  exact ⟨ob,es,ep,k _ ob (λz=>(aH _ z).2.1 rfl) ho,r⟩
 ·refine (I.hok b u e).stay (λc v hc q=>k c v ?_ q) (λc q=>q) λc xs q=>q
  rcases hc with z | z
  ·rw [z];exact bu e
  ·exact bu z
section
variable {prog:Program}{w:World}{A:Around}{E:Value->Shared->Prop}{s:Shared}{k:Kd}
theorem tj (ok:KdOk k){z ta aW p q u v:Addr}{m n:Nat}{xs ys:Array Value}{c0 c1:Value}{Q:PySem.Fin->Shared->Prop} (D:ZipApart z ta aW p q u v) (Z:IsZip s.heap z ta aW .none) (Ta:IsPair s.heap ta (.ref p) (.ref q))
  (To:IsPair s.heap aW c0 c1) (P:k.it s.heap p u m) (P':k.it s.heap q v n) (l7:k.sq s.heap u xs) (U':k.sq s.heap v ys)
  (fD:∀ x y,xs[m]?=some x->ys[n]?=some y->∀ g:Heap,g.objs.size=s.heap.objs.size+1/\IsPair g s.heap.objs.size x y->IsZip g z ta aW (rawInt s.heap.objs.size)->IsPair g aW x y->k.it g p u (m+1)/\k.it g q v (n+1) →
   (∀ c o,(c≠z/\c≠aW/\c≠p/\c≠q)->s.heap.get? c=some o->g.get? c=some o)->Q (.done (.ret (.ref s.heap.objs.size))) { s with heap:=g })
  (gone:(xs[m]?=none\/ys[n]?=none)->A.handled=none/\∀ (g:Heap) (x:Addr),(∀ c o,(c≠z/\c≠aW/\c≠p/\c≠q)->s.heap.get? c=some o->g.get? c=some o)->(∃ o,g.get? x=some o/\o.cls=.type "StopIteration")->E (.ref x) { s with heap:=g }) :
  wpAny (model prog w) A (Builtin.«zip.__next__» ⟨[.ref z],[]⟩) Q E s:=by
 refine wpAny_bind (wpAny_of_eq (a:=(Value.ref z,[])) rfl (wpAny_bind (wpAny_field (i:=2) Z rfl (x:=.bool false) rfl (wpAny_bind (wpAny_field (i:=3) Z rfl (x:=.ref ta) rfl (wpAny_bind (wpAny_seqItems Ta rfl ?_)))))))
 refine wpAny_bind (m:=Builtin.SmallTypes.ownedTupleIsFree (.ref z)) (wpAny_bind (wpAny_field (i:=0) Z rfl (x:=.none) rfl (wpAny_pure ?_)))
 rw [if_pos rfl]
 refine wpAny_bind (wpAny_rule (wpAny_bind (wpAny_field (i:=4) Z rfl (x:=.ref aW) rfl (wpAny_bind (wpAny_setField_rec Z (by simp) λg1 Z1 b1=>?_)))))
 replace Z1:IsZip g1 z ta aW .ellipsis:=Z1
 have gE:∀ (g:Heap) (x:Addr),IsZip g z ta aW .ellipsis->(∃ o,g.get? x=some o/\o.cls=.type "StopIteration")->(∀ g':Heap,Heap.SameBut z g g'->(∃ o,g'.get? x=some o/\o.cls=.type "StopIteration")->E (.ref x) { s with heap:=g' }) →
   wpAny (model prog w) A (setField (.ref z) 0 .none) (λ_ s'=>E (.ref x) s') E { s with heap:=g }:=λg x Zg is kk=>by
  obtain ⟨o,e1,e2⟩:=is
  refine wpAny_setField_rec Zg (by simp) λg' _ b'=>kk g' b' ⟨o,b'.extBut _ _ (λsame=>?_) e1,e2⟩
  rw [same,Zg] at e1
  cases e1
  simp at e2
 have f1:∀ c o,c≠z->s.heap.get? c=some o->g1.get? c=some o:=λc o ne e=>b1.extBut _ _ ne e
 refine wpAny_bind ?_
 rw [List.zipIdx_cons,List.zipIdx_cons,List.zipIdx_nil,forIn_cons]
 refine wpAny_bind (wpAny_bind (wpAny_onRaise (wpAny_bind (m:=nextOf (.ref p)) ?_)))
 have P1:=ok.itAt P λo e=>f1 _ o D.i1z e
 have U1:=ok.sqAt l7 λo e=>f1 _ o D.l1z e
 cases hx:xs[m]? with
 | none =>
  obtain ⟨hh,bi⟩:=gone (.inl hx)
  exact ok.stop hh P1 U1 hx λg2 x b2 is=>gE g2 x (b2 _ _ D.i1z.symm Z1) is λg' b' gF=>bi g' x (λc o ne e=>b'.extBut _ _ ne.1 (b2 _ _ ne.2.2.1 (f1 c o ne.1 e))) gF
 | some x =>
  refine ok.item P1 U1 hx λg2 P2 b2=>wpAny_pure ?_
  have iS:IsPair g2 aW c0 c1:=b2.extBut _ _ D.TOi1 (f1 _ _ D.TOz To)
  refine wpAny_bind (wpAny_seqItems iS rfl (wpAny_bind (wpAny_updateSeq_pair iS λg3 gG b3=>wpAny_bind (wpAny_letGo (wpAny_pure ?_)))))
  replace gG:IsPair g3 aW x c1:=gG
  have f3:∀ c o,c≠aW->c≠p->g1.get? c=some o->g3.get? c=some o:=λc o n1 n2 e=>b3.extBut _ _ n1 (b2.extBut _ _ n2 e)
  have Z3:IsZip g3 z ta aW .ellipsis:=f3 _ _ D.TOz.symm D.i1z.symm Z1
  dsimp only
  rw [forIn_cons]
  refine wpAny_bind (wpAny_bind (wpAny_onRaise (wpAny_bind (m:=nextOf (.ref q)) ?_)))
  have Q3:=ok.itAt P' λo e=>f3 _ o D.TOi2.symm D.i12.symm (f1 _ o D.i2z e)
  have V3:=ok.sqAt U' λo e=>f3 _ o D.l2TO D.l2i1 (f1 _ o D.l2z e)
  cases hy:ys[n]? with
  | none =>
   obtain ⟨hh,bi⟩:=gone (.inr hy)
   exact ok.stop hh Q3 V3 hy λg4 x b4 is=>gE g4 x (b4 _ _ D.i2z.symm Z3) is λg' b' gF=>bi g' x (λc o ne e=>b'.extBut _ _ ne.1 (b4 _ _ ne.2.2.2 (f3 c o ne.2.1 ne.2.2.1 (f1 c o ne.1 e)))) gF
  | some y =>
   refine ok.item Q3 V3 hy λg4 Q4 b4=>wpAny_pure ?_
   have iU:IsPair g4 aW x c1:=b4.extBut _ _ D.TOi2 gG
   refine wpAny_bind (wpAny_seqItems iU rfl (wpAny_bind (wpAny_updateSeq_pair iU λg5 eW b5=>wpAny_bind (wpAny_letGo (wpAny_pure ?_)))))
   replace eW:IsPair g5 aW x y:=eW
   have f5:∀ c o,c≠aW->c≠q->g3.get? c=some o->g5.get? c=some o:=λc o n1 n2 e=>b5.extBut _ _ n1 (b4.extBut _ _ n2 e)
   dsimp only
   rw [List.forIn_nil]
   refine wpAny_pure (wpAny_bind (wpAny_seqItems eW rfl (wpAny_bind (wpAny_newTuple ?_))))
   have same:g5.objs.size=s.heap.objs.size:=b5.1.trans (b4.1.trans (b3.1.trans (b2.1.trans b1.1)))
   have Z5:IsZip g5 z ta aW .ellipsis:=f5 _ _ D.TOz.symm D.i2z.symm Z3
   have aP:g5.objs.size≠z:=ne_of_gt (lt_size Z5)
   have Z6:IsZip (g5.push { cls:=.type "tuple", data:=.seq #[x,y] }) z ta aW .ellipsis:=get?_push_of_some _ Z5
   refine wpAny_bind (m:=Builtin.SmallTypes.ownedTupleHandOut (.ref z) (.ref g5.objs.size)) (wpAny_bind (wpAny_setField_rec Z6 (by simp) λg7 Z7 b7=>?_))
   refine wpAny_setField_rec Z7 (by simp) λg8 Z8 b8=>wpAny_pure ?_
   replace Z8:IsZip g8 z ta aW (rawInt g5.objs.size):=Z8
   have f8:∀ c o,c≠z->g5.get? c=some o->g8.get? c=some o:=λc o ne e=>b8.extBut _ _ ne (b7.extBut _ _ ne (get?_push_of_some _ e))
   have T8:IsPair g8 g5.objs.size x y:=b8.extBut _ _ aP (b7.extBut _ _ aP (get?_push_size _ rfl))
   have dX:g8.objs.size=g5.objs.size+1:=b8.1.trans (b7.1.trans (size_push ..))
   show Q (.done (.ret (.ref g5.objs.size))) { s with heap:=g8 }
   rw [same] at Z8 T8 dX ⊢
   exact fD x y hx hy g8 ⟨dX,T8⟩ Z8 (f8 _ _ D.TOz eW) ⟨ok.itAt P2 λo e=>f8 _ o D.i1z (f5 _ o D.TOi1.symm D.i12 (b3.extBut _ _ D.TOi1.symm e)),ok.itAt Q4 λo e=>f8 _ o D.i2z (b5.extBut _ _ D.TOi2.symm e)⟩
    λc o ne e=>f8 c o ne.1 (f5 c o ne.2.1 ne.2.2.2 (f3 c o ne.2.1 ne.2.2.1 (f1 c o ne.1 e)))
noncomputable abbrev zk1 (k:Kd) (h:Heap) (l1:Addr):Heap:=h.push { cls:=.type k.nm,data:=.fields #[.ref l1,.int 0 0] }
noncomputable abbrev zk2 (k:Kd) (h:Heap) (l1 l2:Addr):Heap:=(zk1 k h l1).push { cls:=.type k.nm,data:=.fields #[.ref l2,.int 0 0] }
noncomputable abbrev zk3 (k:Kd) (h:Heap) (l1 l2:Addr):Heap:=(zk2 k h l1 l2).push { cls:=.type "tuple", data:=.seq #[.ref h.objs.size,.ref (zk1 k h l1).objs.size] }
noncomputable abbrev zk4 (k:Kd) (h:Heap) (l1 l2:Addr):Heap:=(zk3 k h l1 l2).push { cls:=.type "tuple", data:=.seq #[.none,.none] }
noncomputable abbrev zk5 (k:Kd) (h:Heap) (l1 l2:Addr):Heap:=(zk4 k h l1 l2).push { cls:=.type "zip", data:=.fields #[.none,.bool false,.bool false,.ref (zk2 k h l1 l2).objs.size,.ref (zk3 k h l1 l2).objs.size] }
theorem AE (ok:KdOk k) (l1 l2:Addr) (xs ys:Array Value) :
  Meets (Builtin.«zip.__new__» ⟨[.type "zip", .ref l1,.ref l2],[]⟩) (λ_ R s=>k.sq s.heap l1 xs/\k.sq s.heap l2 ys ∧
   ∀ h',IsZip h' (s.heap.objs.size+4) (s.heap.objs.size+2) (s.heap.objs.size+3) .none->IsPair h' (s.heap.objs.size+2) (.ref s.heap.objs.size) (.ref (s.heap.objs.size+1)) →
    IsPair h' (s.heap.objs.size+3) .none .none->k.it h' s.heap.objs.size l1 0->k.it h' (s.heap.objs.size+1) l2 0->(∀ c o,s.heap.get? c=some o->h'.get? c=some o)->R (.ok (.ret (.ref (s.heap.objs.size+4)))) { s with heap:=h' }) :=
 .of_wp λprog w A R s h=>by
  obtain ⟨hp,gn,dw,tk,os⟩:=s
  obtain ⟨dY,cz,h⟩:=h
  have iV:=sub_zip
  have j6:k.sq (Shared.heap ⟨hp,gn,dw,tk,os⟩) l1 xs:=dY
  have j7:k.sq (Shared.heap ⟨zk1 k hp l1,gn,dw,tk,os⟩) l2 ys:=ok.sqAt cz λo e=>get?_push_of_some _ e
  wp_walk using ok.iter j6,ok.iter j7
  refine ⟨_,rfl,?_⟩
  have z1:(zk1 k hp l1).objs.size=hp.objs.size+1:=size_push ..
  have z2:(zk2 k hp l1 l2).objs.size=hp.objs.size+2:=by rw [size_push,z1]
  have z3:(zk3 k hp l1 l2).objs.size=hp.objs.size+3:=by rw [size_push,z2]
  have z4:(zk4 k hp l1 l2).objs.size=hp.objs.size+4:=by rw [size_push,z3]
  have g5:(zk5 k hp l1 l2).get? (zk4 k hp l1 l2).objs.size=some { cls:=.type "zip", data:=.fields #[.none,.bool false,.bool false,.ref (zk2 k hp l1 l2).objs.size,.ref (zk3 k hp l1 l2).objs.size] }:=get?_push_size _ rfl
  have g4:(zk5 k hp l1 l2).get? (zk3 k hp l1 l2).objs.size=some { cls:=.type "tuple", data:=.seq #[.none,.none] }:=get?_push_of_some _ (get?_push_size _ rfl)
  have g3:(zk5 k hp l1 l2).get? (zk2 k hp l1 l2).objs.size=some { cls:=.type "tuple", data:=.seq #[.ref hp.objs.size,.ref (zk1 k hp l1).objs.size] }:=get?_push_of_some _ (get?_push_of_some _ (get?_push_size _ rfl))
  have n2:k.it (zk2 k hp l1 l2) (zk1 k hp l1).objs.size l2 0:=ok.new
  have n1:k.it (zk1 k hp l1) hp.objs.size l1 0:=ok.new
  have i2:k.it (zk5 k hp l1 l2) (zk1 k hp l1).objs.size l2 0:=ok.itAt n2 λo e=>get?_push_of_some _ (get?_push_of_some _ (get?_push_of_some _ e))
  have i1:k.it (zk5 k hp l1 l2) hp.objs.size l1 0:=ok.itAt n1 λo e=>get?_push_of_some _ (get?_push_of_some _ (get?_push_of_some _ (get?_push_of_some _ e)))
  show R (.ok (.ret (.ref (zk4 k hp l1 l2).objs.size))) { heap:=zk5 k hp l1 l2,gens:=gn,drawn:=dw,toks:=tk,os:=os }
  rw [z2,z3,z4] at g5
  rw [z1,z2] at g3
  rw [z3] at g4
  rw [z1] at i2
  rw [z4]
  exact h (zk5 k hp l1 l2) g5 g3 g4 i1 i2 λc o e=>get?_push_of_some _ (get?_push_of_some _ (get?_push_of_some _ (get?_push_of_some _ (get?_push_of_some _ e))))
theorem wH (ok:KdOk k){l1 l2:Addr}{xs ys:Array Value}{Q:Value->Shared->Prop} (dY:k.sq s.heap l1 xs) (cz:k.sq s.heap l2 ys)
  (dZ:∀ n h',n=s.heap.objs.size->IsZip h' (n+4) (n+2) (n+3) .none->IsPair h' (n+2) (.ref n) (.ref (n+1))->IsPair h' (n+3) .none .none->k.it h' n l1 0->k.it h' (n+1) l2 0->(∀ c o,s.heap.get? c=some o->h'.get? c=some o)->Q (.ref (n+4)) { s with heap:=h' }) :
  wpAny (model prog w) A (call (Value.type "zip") ([l1,l2].map Value.ref)) Q E s :=
 callType_new F.called_zip (by decide) (F.typeCall_zip_2 _ _) (F.newCall_zip_2 _ _) (λobj=>F.args_object_init_3 obj _ _) F.entry_zip_new (AE ok l1 l2 xs ys) ⟨dY,cz,λh' b1 b2 b3 b4 b5 b6=>⟨⟨_,b1,rfl⟩,dZ _ h' rfl b1 b2 b3 b4 b5 b6⟩⟩
end
section
variable {X:Cx}{k:Kd}
noncomputable def Itz (rd:Hp->Addr->List V->Prop) (l1 l2:Addr):It :=
 ⟨λi H=>∃ xs ys x y,rd H l1 xs/\rd H l2 ys/\xs[i]?=some x/\ys[i]?=some y,
  λi H v H'=>∃ p x y,H p=none/\v=.ref p/\H'=upd H p (.tup [x,y])/\(∀ xs,rd H l1 xs->xs[i]?=some x)/\(∀ ys,rd H l2 ys->ys[i]?=some y),
  λi H=>∃ xs ys,rd H l1 xs/\rd H l2 ys/\(xs.length<=i\/ys.length<=i)⟩
structure KdRd (K:PySem.W.Frag) (k:Kd) (rd:Hp->Addr->List V->Prop):Prop where
 of:∀ {X:Cx}{aa:List (Addr×Obj)}{U:L2.St}{H:Hp}{s:Shared}{a:Addr}{xs:List V},X.K=K->Inv X aa U H s->rd H a xs->∃ ae:List Value,Vals xs ae/\k.sq s.heap a ae.toArray
 inj:∀ {X:Cx}{aa:List (Addr×Obj)}{U:L2.St}{H:Hp}{s:Shared}{a:Addr}{xs ys:List V},X.K=K->Inv X aa U H s->rd H a xs->rd H a ys->xs=ys
theorem ue (K:PySem.W.Frag):KdRd K kdL (λH a xs=>SqL K H a xs) where
 of:=λe I h=>by subst e;obtain ⟨ae,r,t,_⟩:=I.list h;exact ⟨ae,r,t.isList⟩
 inj:=λe I h h'=>by subst e;exact I.list_inj h h'
theorem uK (K:PySem.W.Frag):KdRd K kdT (λH a xs=>SqT K H a xs) where
 of:=λe I h=>by subst e;obtain ⟨ae,r,t,_⟩:=I.tuple h;exact ⟨ae,r,t⟩
 inj:=λe I h h'=>by subst e;exact I.tuple_inj h h'
theorem zy {P:Program}{w:World}{K:PySem.W.Frag}{aT:List Expr}{x1:Nat}{tp:Pos}{rd:Hp->Addr->List V->Prop} (ok:KdOk k) (kr:KdRd K k rd){z TI TO i1 i2 l1 l2:Addr} (D:ZipApart z TI TO i1 i2 l1 l2) :
  Turn P w K (.Tuple aT x1 tp) (Itz rd l1 l2) [z,TI,TO,i1,i2] z (λi h=>IsZip h z TI TO .none/\IsPair h TI (.ref i1) (.ref i2)/\(∃ a b,IsPair h TO a b)/\k.it h i1 l1 i/\k.it h i2 l2 i) where
 mem:=by simp
 obj:=λi h st b hb=>by
  obtain ⟨a1,a2,⟨x,y,a3⟩,a4,a5⟩:=st
  rw [mem_cons,mem_cons,mem_cons,mem_cons,mem_singleton] at hb
  rcases hb with rfl | rfl | rfl | rfl | rfl
  ·exact ⟨_,a1,λv q=>by cases (show fields _=Data.cell v from q)⟩
  ·exact ⟨_,a2,λv q=>by cases (show seq _ _=Data.cell v from q)⟩
  ·exact ⟨_,a3,λv q=>by cases (show seq _ _=Data.cell v from q)⟩
  ·exact ok.itObj a4
  ·exact ok.itObj a5
 keep:=λi h h' st kk=>by
  obtain ⟨a1,a2,⟨x,y,a3⟩,a4,a5⟩:=st
  exact ⟨kk _ (by simp) _ a1,kk _ (by simp) _ a2,⟨x,y,kk _ (by simp) _ a3⟩,ok.itAt a4 λo e=>kk _ (by simp) o e,ok.itAt a5 λo e=>kk _ (by simp) o e⟩
 item:=by
  intro X hP hw hK hc i aa s U H E I hf st hg
  subst hP hw
  obtain ⟨a1,a2,⟨av,bv,a3⟩,a4,a5⟩:=st
  obtain ⟨xs,ys,x,y,g1,g2,g3,g4⟩:=hg
  obtain ⟨ae,r1,t1⟩:=kr.of hK I g1
  obtain ⟨aS,r2,t2⟩:=kr.of hK I g2
  obtain ⟨u1,e1,e2⟩:=r1.get g3
  obtain ⟨u2,e3,e4⟩:=r2.get g4
  have hT:s.TypeIs (.ref z) "zip":=⟨_,a1,rfl⟩
  unfold pyNext
  refine wpAny_bind (wpAny_attempt (wpAny_callSpecial?_slot (name:=ofString "__next__") hT F.slot_zip_next (wpAny_call_entry F.slot_zip_next hT F.entry_zip_next (tj ok D a1 a2 a3 a4 a5 t1 t2 ?_ ?_) (F.args_zip_next_1 _))))
  case refine_2 =>
   intro non
   have f1:ae.toArray[i]?=some u1:=by simpa using e1
   have f2:aS.toArray[i]?=some u2:=by simpa using e3
   rw [f1,f2] at non
   rcases non with non | non<;>cases non
  intro y1 y2 k1 k2 h' ⟨_,b5⟩ b1 b2 ⟨b3,b4⟩ b7
  have f1:ae.toArray[i]?=some u1:=by simpa using e1
  have f2:aS.toArray[i]?=some u2:=by simpa using e3
  rw [f1] at k1;cases k1
  rw [f2] at k2;cases k2
  refine ⟨_,rfl,wpAny_pure ⟨.ref s.heap.objs.size,rfl,wpAny_letOwnedTupleGo_zip b1 λh2 c1 c2=>?_⟩⟩
  have lt:∀ {b o},s.heap.get? b=some o->b≠s.heap.objs.size:=λ{b o} e=>ne_of_lt (lt_size e)
  have ec:=lt a1
  have iW:=lt a2
  have iX:=lt a3
  have kk:∀ b u,b∉[z,TI,TO,i1,i2]->s.heap.get? b=some u->h2.get? b=some u:=λb u hb e=>by
   simp only [mem_cons,not_mem_nil,or_false,not_or] at hb
   exact c2.extBut _ _ hb.1 (b7 b u ⟨hb.1,hb.2.2.1,hb.2.2.2.1,hb.2.2.2.2⟩ e)
  have pT:IsPair h2 s.heap.objs.size u1 u2:=c2.extBut _ _ (symm ec) b5
  have I1:Inv X aa U (upd H s.heap.objs.size (.tup [x,y])) { s with heap:=h2 }:=uO (t':=s.toks) I hf kk (le_refl _) ⟨by show 2<=sizeLine;rw [sizeLine_eq];decide,[u1,u2],.cons e2 (.cons e4 .nil),⟨_,pT,rfl,_,rfl⟩⟩
  have fr:=I.hok.fresh (le_refl s.heap.objs.size)
  refine ⟨.ref s.heap.objs.size,_,I1,rfl,⟨s.heap.objs.size,x,y,fr,rfl,rfl,λzs hz=>by rw [kr.inj hK I hz g1];exact g3,λzs hz=>by rw [kr.inj hK I hz g2];exact g4⟩,⟨c1,c2.extBut _ _ D.TIz (b7 _ _ ⟨D.TIz,D.TITO,D.TIi1,D.TIi2⟩ a2),⟨u1,u2,c2.extBut _ _ D.TOz b2⟩,ok.itAt b3 λo e=>c2.extBut _ _ D.i1z e,ok.itAt b4 λo e=>c2.extBut _ _ D.i2z e⟩,λb hb=>?_⟩
  have gI:=(hf b hb).1
  have nb:b≠s.heap.objs.size:=by
   rw [mem_cons,mem_cons,mem_cons,mem_cons,mem_singleton] at hb
   rcases hb with rfl | rfl | rfl | rfl | rfl
   ·exact ec
   ·exact iW
   ·exact iX
   ·exact ne_of_lt (ok.itLt a4)
   ·exact ne_of_lt (ok.itLt a5)
  rw [ma nb];exact gI
 done:=by
  intro X hP hw hK hc i aa s U H E I hf st hg
  subst hP hw
  obtain ⟨a1,a2,⟨av,bv,a3⟩,a4,a5⟩:=st
  obtain ⟨xs,ys,g1,g2,g3⟩:=hg
  obtain ⟨ae,r1,t1⟩:=kr.of hK I g1
  obtain ⟨aS,r2,t2⟩:=kr.of hK I g2
  have dY:=r1.length
  have cz:=r2.length
  have hT:s.TypeIs (.ref z) "zip":=⟨_,a1,rfl⟩
  unfold pyNext
  refine wpAny_bind (wpAny_attempt (wpAny_callSpecial?_slot (name:=ofString "__next__") hT F.slot_zip_next (wpAny_call_entry F.slot_zip_next hT F.entry_zip_next (tj ok D a1 a2 a3 a4 a5 t1 t2 ?_ λ_=>⟨I.ok.hd hc,λh' e hk he=>?_⟩) (F.args_zip_next_1 _))))
  ·intro y1 y2 k1 k2
   have m1:=(Array.getElem?_eq_some_iff.mp k1).1
   have m2:=(Array.getElem?_eq_some_iff.mp k2).1
   simp at m1 m2
   omega
  ·obtain ⟨o,ho,gJ⟩:=he
   refine wpAny_bind (wpAny_isInstance (T := "StopIteration") (b:=true) ⟨o,ho,gJ⟩ isSubtype_stop ?_)
   refine wpAny_pure ⟨rfl,v3 (t':=s.toks) I hf λb u hb e=>?_⟩
   simp only [mem_cons,not_mem_nil,or_false,not_or] at hb
   exact hk b u ⟨hb.1,hb.2.2.1,hb.2.2.2.1,hb.2.2.2.2⟩ e
 self:=λ_ _ _ _ _ st h=>wpAny_pyIter_zip st.1 h
end
section
variable {X:Cx}{B:BB}{a b c e:Expr}{es:List Expr}{pos:Pos}{ga gb gc:M D}
noncomputable def iZip (K:PySem.W.Frag) (ta:TA):TI:=λU H R=>ta U H λvs H1=>(∃ l1 l2 xs ys,vs=[.ref l1,.ref l2]/\SqL K H1 l1 xs/\SqL K H1 l2 ys/\R (Itz (λH a xs=>SqL K H a xs) l1 l2) H1)\/(∃ l1 l2 xs ys,vs=[.ref l1,.ref l2]/\SqT K H1 l1 xs/\SqT K H1 l2 ys/\R (Itz (λH a xs=>SqT K H a xs) l1 l2) H1)
theorem vt {k:Kd}{rd:Hp->Addr->List V->Prop} (ok:KdOk k) (kr:KdRd X.K k rd){aT:List Expr}{x1:Nat}{tp:Pos}{aa:List (Addr×Obj)}{U:L2.St}{H:Hp}{s:Shared}{R:It->Hp->Prop}{l1 l2:Addr}{xs ys:List V} (I:Inv X aa U H s) (h1:rd H l1 xs) (h2:rd H l2 ys) (q:R (Itz rd l1 l2) H) :
  wpAny (model X.prog X.w) X.A (call (.type "zip") [.ref l1,.ref l2]) (λv s1=>wpAny (model X.prog X.w) X.A (pyIter v) (PIE X aa U (.Tuple aT x1 tp) R) X.xe s1) X.xe s:=by
 obtain ⟨ae,r1,t1⟩:=kr.of rfl I h1
 obtain ⟨aS,r2,t2⟩:=kr.of rfl I h2
 refine wH ok t1 t2 λn h' hn a1 a2 a3 a4 a5 a6=>wpAny_pyIter_zip a1 ?_
 subst hn
 have I1:Inv X aa U H { s with heap:=h' }:=I.kept (t':=s.toks) a6
 refine ⟨s.heap.objs.size+4,[s.heap.objs.size+4,s.heap.objs.size+2,s.heap.objs.size+3,s.heap.objs.size,s.heap.objs.size+1],_,_,H,rfl,I1,zy ok kr (zipApart_new (ok.sqLt t1) (ok.sqLt t2)),⟨a1,a2,⟨_,_,a3⟩,a4,a5⟩,λb hb=>?_,q⟩
 rw [mem_cons,mem_cons,mem_cons,mem_cons,mem_singleton] at hb
 have up:∀ n,FpOk X aa H (s.heap.objs.size+n):=λn=>I.fpOk (le_add_right _ _) (I.hok.fresh (le_add_right _ _))
 rcases hb with rfl | rfl | rfl | rfl | rfl
 ·exact up 4
 ·exact up 2
 ·exact up 3
 ·exact up 0
 ·exact up 1
theorem xS {aT:List Expr}{x1:Nat}{tp p:Pos}{ta:TA} (hg:Gl X "zip") (hm:X.mg "zip"=none) (ha:PA X [a,b] ta) (hs:starEach [a,b] X.env=[(false,eval a X.env),(false,eval b X.env)]:=by rfl) (bw:starEach [b] X.env=[(false,eval b X.env)]:=by rfl) :
  PI X (.Tuple aT x1 tp) (.Call (.Name "zip" p) [a,b] [] pos) (iZip X.K ta):=by
 intro aa s U H R I h
 refine Call_ (nw I hg hm boot_zip (PyProof.Rows.callWith_type1 (thn (ha pos aa s U H _ I h) λus s1 ⟨vs,H1,I1,r1,q1⟩=>?_) (by rw [hs,bw]) (by rw [bw];rfl)))
 rcases q1 with ⟨l1,l2,xs,ys,e,h1,h2,q⟩ | ⟨l1,l2,xs,ys,e,h1,h2,q⟩
 ·subst e
  obtain ⟨u1,u2,rfl,e1,e2⟩:=r1.two
  cases e1;cases e2
  exact vt uV (ue _) I1 h1 h2 q
 ·subst e
  obtain ⟨u1,u2,rfl,e1,e2⟩:=r1.two
  cases e1;cases e2
  exact vt sZ (uK _) I1 h1 h2 q
noncomputable def pairsD (xs ys:List D):List D:=(xs.zip ys).map λp=>.tup [p.1,p.2]
noncomputable def zipI (ds:List D):Option (List D):=match ds with
 | [.lst xs,.lst ys]=>some (pairsD xs ys)
 | [.tup xs,.tup ys]=>some (pairsD xs ys)
 | _=>none
theorem uS {K:PySem.W.Frag}{I:Hp}{rd:Hp->Addr->List V->Prop}{l1 l2:Addr}{xs ys:List V}{ds es:List D} (mono:∀ {H a xs},Same I H->rd I a xs->rd H a xs) (inj:∀ {H},Same I H->(∀ zs,rd H l1 zs->zs=xs)/\(∀ zs,rd H l2 zs->zs=ys)\/True) (h1:rd I l1 xs) (h2:rd I l2 ys) (i1:IsA K I ds xs) (i2:IsA K I es ys):Yields K I (pairsD ds es) (Itz rd l1 l2):=λi H s=>by
 have L1:=i1.length
 have L2:=i2.length
 refine ⟨λd hd=>?_,λhi=>⟨xs,ys,mono s h1,mono s h2,?_⟩⟩
 ·unfold pairsD at hd
  obtain ⟨q,e1,rfl⟩:=getMap hd
  obtain ⟨e2,e3⟩:=List.getElem?_zip_eq_some.mp e1
  obtain ⟨x,f1,f2⟩:=i1.get e2
  obtain ⟨y,f3,f4⟩:=i2.get e3
  refine ⟨⟨xs,ys,x,y,mono s h1,mono s h2,f1,f3⟩,λv H2 hy=>?_⟩
  obtain ⟨p,x',y',g1,g2,g3,g4,g5⟩:=hy
  have k1:=g4 xs (mono s h1)
  have k2:=g5 ys (mono s h2)
  rw [f1] at k1;cases k1
  rw [f3] at k2;cases k2
  exact .inr ⟨p,[q.1,q.2],[x,y],rfl,g2,g1,g3,IsA.cons f2 (IsA.cons f4 IsA.nil)⟩
 ·unfold pairsD at hi
  rw [length_map,List.length_zip] at hi
  omega
theorem AU {aT:List Expr}{x1:Nat}{tp p:Pos}{t:M (List D)} (hg:Gl X "zip") (hm:X.mg "zip"=none) (ha:AD X B [a,b] t) (hs:starEach [a,b] X.env=[(false,eval a X.env),(false,eval b X.env)]:=by rfl) (bw:starEach [b] X.env=[(false,eval b X.env)]:=by rfl) :
  ITD X B (.Tuple aT x1 tp) (.Call (.Name "zip" p) [a,b] [] pos) (fn1 zipI t):=PI.imp (xS hg hm ha hs bw) λU H R q=>by
 obtain ⟨G,I,Γ,ds,ac,r,e1,k⟩:=q
 obtain ⟨d,Γ1,e2,e3⟩:=i' e1
 obtain ⟨e4,rfl⟩:=mr e3
 refine ⟨G,I,Γ,d,_,r,e2,λvs H1 I1 r1 g1 hd=>?_⟩
 unfold zipI at e4
 split at e4
 ·cases e4
  obtain ⟨x,y,rfl,hx,hy⟩:=hd.two
  obtain ⟨l1,xs,rfl,h1,h2⟩:=mx hx
  obtain ⟨l2,ys,rfl,h3,h4⟩:=mx hy
  exact .inl ⟨l1,l2,xs,ys,rfl,(Same.rdK r1.iH h1).sq,(Same.rdK r1.iH h3).sq,k _ _ _ r1 g1 (uS (λs h=>by rcases h with h | h;exact .inl (Same.rd s h);exact .inr h) (λ_=>.inr trivial) h1.sq h3.sq h2 h4)⟩
 ·cases e4
  obtain ⟨x,y,rfl,hx,hy⟩:=hd.two
  obtain ⟨l1,xs,rfl,h1,h2⟩:=mv hx
  obtain ⟨l2,ys,rfl,h3,h4⟩:=mv hy
  exact .inr ⟨l1,l2,xs,ys,rfl,Same.sqT r1.iH h1,Same.sqT r1.iH h3,k _ _ _ r1 g1 (uS (λs h=>Same.sqT s h) (λ_=>.inr trivial) h1 h3 h2 h4)⟩
 ·cases e4
section
variable {k:Kd}
theorem drawsK (ok:KdOk k){prog:Program}{w:World}{A:Around} (hh:A.handled=none) (it l:Addr) (eV:l≠it) (ag:Array Value):Draws prog w A it [it,l] ag.size (λi v=>ag[i]?=some v) (λi h=>k.it h it l i/\k.sq h l ag) where
 live:=λi h st=>by obtain ⟨o,e,_⟩:=ok.itObj st.1;exact ⟨o,e⟩
 frame:=λi h h' st kk=>⟨ok.itAt st.1 λo e=>kk _ (by simp) o e,ok.sqAt st.2 λo e=>kk _ (by simp) o e⟩
 item:=λi s Q E hi st hQ=>ok.item st.1 st.2 (x:=ag[i]) (by simp [hi]) λh' h1 h2=>hQ _ h' s.toks (by simp [hi]) ⟨h1,ok.sqAt st.2 λo e=>h2.extBut _ _ eV e⟩ h2
 done:=λs Q E st hE=>ok.stop hh st.1 st.2 (by simp) hE
theorem yY (ok:KdOk k) (l:Addr) (ag:Array Value) :
  Meets (Builtin.«enumerate.__new__» ⟨[.type "enumerate", .ref l],[]⟩) (λ_ R s=>k.sq s.heap l ag ∧
   R (.ok (.ret (.ref (s.heap.push { cls:=.type k.nm,data:=.fields #[.ref l,.int 0 0] }).objs.size)))
    { s with heap:=(s.heap.push { cls:=.type k.nm,data:=.fields #[.ref l,.int 0 0] }).push { cls:=.type "enumerate", data:=.fields #[.none,.bool false,.ref s.heap.objs.size,rawInt 0,.none,.none] } }) :=
 .of_wp λprog w A R s h=>by
  obtain ⟨hp,gn,dw,tk,os⟩:=s
  obtain ⟨hl,h⟩:=h
  have iV:=sub_enumerate
  have hL:k.sq (Shared.heap ⟨hp,gn,dw,tk,os⟩) l ag:=hl
  wp_walk using ok.iter hL
  refine wpAny_stack_any λframes=>wpAny_pure ?_
  split
  next c _ _ _ _ _=>cases c == Value.type "enumerate"<;>(wp_walk using ok.iter hL;exact ⟨_,rfl,h⟩)
  next=>wp_walk using ok.iter hL;exact ⟨_,rfl,h⟩
end
end
section
variable {prog:Program}{w:World}{A:Around}{E:Value->Shared->Prop}{s:Shared}{k:Kd}
noncomputable abbrev en1 (k:Kd) (h:Heap) (l:Addr):Heap:=h.push { cls:=.type k.nm,data:=.fields #[.ref l,.int 0 0] }
noncomputable abbrev en2 (k:Kd) (h:Heap) (l:Addr):Heap:=(en1 k h l).push { cls:=.type "enumerate", data:=.fields #[.none,.bool false,.ref h.objs.size,rawInt 0,.none,.none] }
theorem A8 (ok:KdOk k){l:Addr}{ag:Array Value}{Q:Value->Shared->Prop} (hL:k.sq s.heap l ag)
  (dZ:∀ n g,n=s.heap.objs.size->IsEnum g (n+1) n 0 .none->k.it g n l 0->(∀ b o,s.heap.get? b=some o->g.get? b=some o)->Q (.ref (n+1)) { s with heap:=g }) :
  wpAny (model prog w) A (call (Value.type "enumerate") ([l].map Value.ref)) Q E s:=by
 have ee:(en1 k s.heap l).objs.size=s.heap.objs.size+1:=size_push ..
 have eX:(en2 k s.heap l).get? (en1 k s.heap l).objs.size=some _:=get?_push_size _ rfl
 rw [ee] at eX
 refine callType_new F.called_enumerate (by decide) (F.typeCall_enumerate_1 _) (F.newCall_enumerate_1 _) (λobj=>F.args_object_init_2 obj _) F.entry_enumerate_new (yY ok l ag) ⟨hL,?_⟩
 have put:Q (.ref (s.heap.objs.size+1)) { s with heap:=en2 k s.heap l }:=dZ _ _ rfl eX (ok.itAt ok.new λo e=>get?_push_of_some _ e) λb o x=>get?_push_of_some _ (get?_push_of_some _ x)
 rw [← ee] at put eX
 exact ⟨⟨_,eX,rfl⟩,put⟩
end
section
variable {X:Cx}{B:BB}{a b c e:Expr}{es:List Expr}{pos:Pos}{ga gb gc:M D}{k:Kd}
noncomputable def Ite (rd:Hp->Addr->List V->Prop) (l:Addr):It :=
 ⟨λi H=>∃ xs x,rd H l xs/\xs[i]?=some x,λi H v H'=>∃ p x,H p=none/\v=.ref p/\H'=upd H p (.tup [.int i,x])/\(∀ xs,rd H l xs->xs[i]?=some x),λi H=>∃ xs,rd H l xs/\xs.length<=i⟩
theorem yK {P:Program}{w:World}{K:PySem.W.Frag}{aT:List Expr}{x1:Nat}{tp:Pos}{rd:Hp->Addr->List V->Prop} (ok:KdOk k) (kr:KdRd K k rd){z it l:Addr} (gK:z≠it) (j8:l≠it) (j9:z≠l) :
  Turn P w K (.Tuple aT x1 tp) (Ite rd l) [z,it] z (λi h=>(∃ old,IsEnum h z it i old)/\k.it h it l i) where
 mem:=by simp
 obj:=λi h st b hb=>by
  obtain ⟨⟨old,a1⟩,a2⟩:=st
  rw [mem_cons,mem_singleton] at hb
  rcases hb with rfl | rfl
  ·exact ⟨_,a1,λv q=>by cases (show fields _=Data.cell v from q)⟩
  ·exact ok.itObj a2
 keep:=λi h h' st kk=>by
  obtain ⟨⟨old,a1⟩,a2⟩:=st
  exact ⟨⟨old,kk _ (by simp) _ a1⟩,ok.itAt a2 λo e=>kk _ (by simp) o e⟩
 item:=by
  intro X hP hw hK hc i aa s U H E I hf st hg
  subst hP hw
  obtain ⟨⟨old,a1⟩,a2⟩:=st
  obtain ⟨xs,x,g1,g3⟩:=hg
  obtain ⟨ae,r1,t1⟩:=kr.of hK I g1
  obtain ⟨u1,e1,e2⟩:=r1.get g3
  have aE:i < ae.toArray.size:=by
   have:=(List.getElem?_eq_some_iff.mp e1).1
   simpa using this
  have D:=drawsK ok (prog:=X.prog) (w:=X.w) (A:=X.A.in1) (I.ok.hd hc) it l j8 ae.toArray
  refine wpAny_pyNext_enum_itemD D a1 ⟨a2,t1⟩ aE gK (by simp [gK,j9]) λy h' tk b0 b1 b2 b3 b4 b5=>?_
  have hy:y=u1:=by
   have eS:ae.toArray[i]?=some u1:=by simpa using e1
   have iY:ae.toArray[i]?=some y:=b0
   rw [eS] at iY;cases iY;rfl
  subst hy
  refine ⟨.ref s.heap.objs.size,rfl,wpAny_letOwnedTupleGo_enum b1 λh2 c1 c2=>?_⟩
  have ec:z≠s.heap.objs.size:=ne_of_lt (lt_size a1)
  have ka:it≠s.heap.objs.size:=ne_of_lt (ok.itLt a2)
  have kk:∀ b u,b∉[z,it]->s.heap.get? b=some u->h2.get? b=some u:=λb u hb e=>by
   simp only [mem_cons,not_mem_nil,or_false,not_or] at hb
   exact c2.extBut _ _ hb.1 (b5 b u hb.1 hb.2 e)
  have pT:=c2.extBut _ _ (symm ec) b3
  have I1:Inv X aa U (upd H s.heap.objs.size (.tup [.int i,x])) { s with heap:=h2,toks:=tk+1 }:=uO (t':=tk+1) I hf kk (le_refl _) ⟨by show 2<=sizeLine;rw [sizeLine_eq];decide,[.int i tk,y],.cons ⟨_,rfl⟩ (.cons e2 .nil),⟨_,pT,rfl,_,rfl⟩⟩
  have fr:=I.hok.fresh (le_refl s.heap.objs.size)
  refine ⟨.ref s.heap.objs.size,_,I1,rfl,⟨s.heap.objs.size,x,fr,rfl,rfl,λzs hz=>by rw [kr.inj hK I hz g1];exact g3⟩,⟨⟨y,c1⟩,ok.itAt b2.1 λo e=>c2.extBut _ _ gK.symm e⟩,λb hb=>?_⟩
  have gI:=(hf b hb).1
  have nb:b≠s.heap.objs.size:=by
   rw [mem_cons,mem_singleton] at hb
   rcases hb with rfl | rfl
   ·exact ec
   ·exact ka
  rw [ma nb];exact gI
 done:=by
  intro X hP hw hK hc i aa s U H E I hf st hg
  subst hP hw
  obtain ⟨⟨old,a1⟩,a2⟩:=st
  obtain ⟨xs,g1,g3⟩:=hg
  obtain ⟨ae,r1,t1⟩:=kr.of hK I g1
  have dY:=r1.length
  have hT:s.TypeIs (.ref z) "enumerate":=⟨_,a1,rfl⟩
  have hx:ae.toArray[i]?=none:=by simp;omega
  unfold pyNext
  refine wpAny_bind (wpAny_attempt (wpAny_callSpecial?_slot (name:=ofString "__next__") hT F.slot_enumerate_next (wpAny_call_entry F.slot_enumerate_next hT F.entry_enumerate_next (wpAny_bind (wpAny_of_eq (a:=(Value.ref z,[])) rfl (wpAny_bind (wpAny_field (i:=2) a1 rfl (x:=.ref it) rfl ?_)))) (F.args_enumerate_next_1 _))))
  refine wpAny_bind (ok.stop (I.ok.hd hc) a2 t1 hx λh' x kb cB=>?_)
  obtain ⟨o,ho,gJ⟩:=cB
  refine wpAny_bind (wpAny_isInstance (T := "StopIteration") (b:=true) ⟨o,ho,gJ⟩ isSubtype_stop ?_)
  refine wpAny_pure ⟨rfl,v3 (t':=s.toks) I hf λb u hb e=>?_⟩
  simp only [mem_cons,not_mem_nil,or_false,not_or] at hb
  exact kb b u hb.2 e
 self:=λ_ _ _ _ _ st h=>by obtain ⟨⟨old,a1⟩,_⟩:=st;exact wpAny_pyIter_enum a1 h
noncomputable def iEnum (K:PySem.W.Frag) (ta:TA):TI:=λU H R=>ta U H λvs H1=>(∃ l xs,vs=[.ref l]/\SqL K H1 l xs/\R (Ite (λH a xs=>SqL K H a xs) l) H1)\/(∃ l xs,vs=[.ref l]/\SqT K H1 l xs/\R (Ite (λH a xs=>SqT K H a xs) l) H1)
theorem uA {rd:Hp->Addr->List V->Prop} (ok:KdOk k) (kr:KdRd X.K k rd){aT:List Expr}{x1:Nat}{tp:Pos}{aa:List (Addr×Obj)}{U:L2.St}{H:Hp}{s:Shared}{R:It->Hp->Prop}{l:Addr}{xs:List V} (I:Inv X aa U H s) (h1:rd H l xs) (q:R (Ite rd l) H) :
  wpAny (model X.prog X.w) X.A (call (.type "enumerate") [.ref l]) (λv s1=>wpAny (model X.prog X.w) X.A (pyIter v) (PIE X aa U (.Tuple aT x1 tp) R) X.xe s1) X.xe s:=by
 obtain ⟨ae,r1,t1⟩:=kr.of rfl I h1
 refine A8 ok t1 λn h' hn a1 a4 a6=>wpAny_pyIter_enum a1 ?_
 subst hn
 have I1:Inv X aa U H { s with heap:=h' }:=I.kept (t':=s.toks) a6
 have lt:=ok.sqLt t1
 refine ⟨s.heap.objs.size+1,[s.heap.objs.size+1,s.heap.objs.size],_,_,H,rfl,I1,yK ok kr (Nat.succ_ne_self _) (ne_of_lt lt) (ne_of_gt (Nat.lt_succ_of_lt lt)),⟨⟨_,a1⟩,a4⟩,λb hb=>?_,q⟩
 rw [mem_cons,mem_singleton] at hb
 have up:∀ n,FpOk X aa H (s.heap.objs.size+n):=λn=>I.fpOk (le_add_right _ _) (I.hok.fresh (le_add_right _ _))
 rcases hb with rfl | rfl
 ·exact up 1
 ·exact up 0
theorem yc {aT:List Expr}{x1:Nat}{tp p:Pos}{ta:TA} (hg:Gl X "enumerate") (hm:X.mg "enumerate"=none) (ha:PA X [a] ta) (hs:starEach [a] X.env=[(false,eval a X.env)]:=by rfl) :
  PI X (.Tuple aT x1 tp) (.Call (.Name "enumerate" p) [a] [] pos) (iEnum X.K ta):=by
 intro aa s U H R I h
 refine Call_ (nw I hg hm boot_enumerate (PyProof.Rows.callWith_type1 (thn (ha pos aa s U H _ I h) λus s1 ⟨vs,H1,I1,r1,q1⟩=>?_) hs rfl))
 rcases q1 with ⟨l1,xs,e,h1,q⟩ | ⟨l1,xs,e,h1,q⟩
 ·subst e
  obtain ⟨u1,rfl,e1⟩:=r1.one
  cases e1
  exact uA uV (ue _) I1 h1 q
 ·subst e
  obtain ⟨u1,rfl,e1⟩:=r1.one
  cases e1
  exact uA sZ (uK _) I1 h1 q
noncomputable def numD:Nat->List D->List D
 | _,[]=>[]
 | n,d::ds=>.tup [.int n,d]::numD (n+1) ds
theorem pY:∀ {ds:List D}{n i:Nat}{d:D},(numD n ds)[i]?=some d->∃ x,ds[i]?=some x/\d=.tup [.int ((n+i:Nat):Int),x]
 | [],n,i,d,h=>by rw [numD] at h;simp at h
 | c::ds,n,0,d,h=>by rw [numD] at h;simp at h;exact ⟨c,rfl,h.symm⟩
 | c::ds,n,i+1,d,h=>by
  rw [numD] at h
  obtain ⟨x,e1,e2⟩:=pY (i:=i) (by simpa using h)
  refine ⟨x,by simpa using e1,?_⟩
  rw [e2,show n+1+i=n+(i+1) from by omega]
theorem ug:∀ (ds:List D) (n:Nat),(numD n ds).length=ds.length
 | [],n=>by rw [numD]
 | c::ds,n=>by rw [numD,length_cons,length_cons,ug ds]
noncomputable def enumI (ds:List D):Option (List D):=match ds with
 | [.lst xs]=>some (numD 0 xs)
 | [.tup xs]=>some (numD 0 xs)
 | _=>none
theorem vw {K:PySem.W.Frag}{I:Hp}{rd:Hp->Addr->List V->Prop}{l:Addr}{xs:List V}{ds:List D} (mono:∀ {H a xs},Same I H->rd I a xs->rd H a xs) (h1:rd I l xs) (i1:IsA K I ds xs):Yields K I (numD 0 ds) (Ite rd l):=λi H s=>by
 refine ⟨λd hd=>?_,λhi=>⟨xs,mono s h1,?_⟩⟩
 ·obtain ⟨y,e1,rfl⟩:=pY hd
  obtain ⟨x,f1,f2⟩:=i1.get e1
  refine ⟨⟨xs,x,mono s h1,f1⟩,λv H2 hy=>?_⟩
  obtain ⟨p,x',g1,g2,g3,g4⟩:=hy
  have k1:=g4 xs (mono s h1)
  rw [f1] at k1;cases k1
  refine .inr ⟨p,_,[.int i,x],rfl,g2,g1,g3,IsA.cons ?_ (IsA.cons f2 IsA.nil)⟩
  rw [Nat.zero_add]
  exact Is.int _
 ·rw [ug,i1.length] at hi
  exact hi
theorem xA {aT:List Expr}{x1:Nat}{tp p:Pos}{t:M (List D)} (hg:Gl X "enumerate") (hm:X.mg "enumerate"=none) (ha:AD X B [a] t) (hs:starEach [a] X.env=[(false,eval a X.env)]:=by rfl) :
  ITD X B (.Tuple aT x1 tp) (.Call (.Name "enumerate" p) [a] [] pos) (fn1 enumI t):=PI.imp (yc hg hm ha hs) λU H R q=>by
 obtain ⟨G,I,Γ,ds,ac,r,e1,k⟩:=q
 obtain ⟨d,Γ1,e2,e3⟩:=i' e1
 obtain ⟨e4,rfl⟩:=mr e3
 refine ⟨G,I,Γ,d,_,r,e2,λvs H1 I1 r1 g1 hd=>?_⟩
 unfold enumI at e4
 split at e4
 ·cases e4
  obtain ⟨x,rfl,hx⟩:=hd.one
  obtain ⟨l1,xs,rfl,h1,h2⟩:=mx hx
  exact .inl ⟨l1,xs,rfl,(Same.rdK r1.iH h1).sq,k _ _ _ r1 g1 (vw (λs h=>by rcases h with h | h;exact .inl (Same.rd s h);exact .inr h) h1.sq h2)⟩
 ·cases e4
  obtain ⟨x,rfl,hx⟩:=hd.one
  obtain ⟨l1,xs,rfl,h1,h2⟩:=mv hx
  exact .inr ⟨l1,xs,rfl,Same.sqT r1.iH h1,k _ _ _ r1 g1 (vw (λs h=>Same.sqT s h) h1 h2)⟩
 ·cases e4
noncomputable def blsD:List D->Option (List Bool)
 | []=>some []
 | .bl b::ds=>match blsD ds with
  | some bs=>some (b::bs)
  | none=>none
 | _=>none
theorem tY:∀ {ds:List D}{bs:List Bool},blsD ds=some bs->ds=bs.map .bl
 | [],bs,h=>by rw [blsD] at h;cases h;rfl
 | .bl b::ds,bs,h=>by
  rw [blsD] at h
  cases e:blsD ds with
  | none=>rw [e] at h;cases h
  | some cs=>rw [e] at h;cases h;rw [tY e];rfl
 | .non::_,_,h=>by cases h
 | .int _::_,_,h=>by cases h
 | .str _::_,_,h=>by cases h
 | .tup _::_,_,h=>by cases h
 | .lst _::_,_,h=>by cases h
 | .exc _ _::_,_,h=>by cases h
theorem uf {K:PySem.W.Frag}{I:Hp}:∀ {bs:List Bool}{xs:List V},IsA K I (bs.map .bl) xs->xs=bs.map .bl
 | [],xs,h=>h.nil_inv
 | b::bs,xs,h=>by
  obtain ⟨x,r,rfl,h1,h2⟩:=h.cons_inv
  rw [mP h1,uf h2];rfl
theorem tf:∀ {bs:List Bool}{us:List Value},Vals (bs.map .bl) us->us=bs.map .bool
 | [],us,h=>by cases h;rfl
 | b::bs,us,h=>by
  cases h with
  | cons r t=>rw [tf t];cases r;rfl
theorem zO (bs:List Bool):(range bs.length).all (λi=>bs.getD i true)=bs.all id:=by
 induction bs with
 | nil=>rfl
 | cons b bs ih =>
  rw [length_cons,List.range_succ_eq_map,all_cons,List.all_map,all_cons]
  congr 1
theorem wO (hc:X.calm=true):CallR X (.builtin "all") (λxs H Q=>∃ (p:Addr) (bs:List Bool),xs=[.ref p]/\SqL X.K H p (bs.map .bl)/\Q (.bl (bs.all id)) H):=by
 intro aa s U H xs us Q I r h
 obtain ⟨p,bs,rfl,hq,q⟩:=h
 obtain ⟨u,rfl,ru⟩:=vals1 r
 cases ru
 obtain ⟨ae,rv,t,hz⟩:=I.list hq
 have:=tf rv
 subst this
 have lt:p < s.heap.objs.size:=by obtain ⟨_,e,_⟩:=t.isList;exact lt_size e
 refine call_all_walk (wpAny_pyIter_list t.isList ?_)
 refine ⟨s.heap.objs.size,_,_,_,_,_,λi=>bs.getD i true,rfl,Walks.list (A:=X.A.in1) (I.ok.hd hc) s.heap.objs.size p (ne_of_lt lt) _,⟨⟨_,get?_push_size _ rfl,rfl,rfl⟩,t.isList.push _⟩,?_,?_⟩
 ·intro i v s' Q' E' hv hQ
  have gL:(bs.map Value.bool)[i]?=some v:=by simpa using hv
  obtain ⟨b,e1,rfl⟩:=getMap gL
  have hQ:Q' (bs.getD i true) s':=hQ
  rw [getD_eq_getElem?_getD,e1] at hQ
  exact wpAny_truthy_bool hQ
 ·intro h' tk kk
  have e1:(bs.map Value.bool).toArray.size=bs.length:=by simp
  rw [e1,zO]
  refine ⟨.bl (bs.all id),H,I.kept λb o e=>kk b o (by simp only [mem_singleton];exact ne_of_lt (lt_size e)) (get?_push_of_some _ e),rfl,q⟩
noncomputable def allF (ds:List D):Option D:=match ds with
 | [.lst xs]=>match blsD xs with
  | some bs=>some (.bl (bs.all id))
  | none=>none
 | _=>none
theorem BZ {p:Pos}{t:M (List D)} (hc:X.calm=true) (hg:Gl X "all") (hm:X.mg "all"=none) (ha:AD X B [e] t) (he:starEach [e] X.env=(false,eval e X.env)::starEach [] X.env:=by rfl) (az:(backTo pos (starEach [] X.env)).any (·.1)=false:=by rfl) :
  ED X B (.Call (.Name "all" p) [e] [] pos) (fn1 allF t):=pG (wO hc) (λds d e B G I H U Γ xs Q r h k=>by
 unfold allF at e
 split at e
 ·split at e
  ·rename_i bs eb
   cases e
   have:=tY eb
   subst this
   obtain ⟨x,rfl,hx⟩:=h.one
   obtain ⟨q,zs,rfl,h3,h4⟩:=mx hx
   have:=uf h4
   subst this
   exact ⟨q,bs,rfl,(Same.rdK r.iH h3).sq,k.now r (Is.bl _)⟩
  ·cases e
 ·cases e) hg hm boot_all ha (by decide) (by decide) he az
noncomputable def reprF (ds:List D):Option D:=match ds with
 | [.bl b]=>some (.str (if b then "True" else "False"))
 | _=>none
end
theorem CompScope.of {bA sc:Scope}{N N':List Str}{m:Nat}
  (h:decide (sc.kind=.function/\(∀ y∈sc.names,y.2≠.cell)/\(∀ y∈sc.names,y.2=.local->sc.names.lookup y.1=some .local)/\(∀ y∈sc.names,y.2=.free->bA.names.lookup y.1=some .cell\/bA.names.lookup y.1=some .free)/\N'.Nodup/\N'.length=m+N.length ∧
   (∀ p∈(N'.drop m).zip N,((relab sc bA).names.lookup p.1=none)\/(p.1=p.2/\(relab sc bA).names.lookup p.1≠some .local)))=true):CompScope bA sc N N' m:=by
 obtain ⟨h1,h2,h3,h4,h5,h6,h7⟩:=of_decide_eq_true h
 exact ⟨h1,h2,h3,h4,h5,h6,h7⟩
theorem oZ {P:Program}{w:World}{K:PySem.W.Frag}{mg:Str->Option Value}{base:Heap}{k:Nat}{f:Addr}{fd:FuncData}{ps:List Str}:FnOk P w K mg base CX0 k f fd ps (spD K λ_=>none):=by
 have no:∀ vs H Q E,¬ spD K (λ_=>none) vs H Q E:=λvs H Q E h=>by
  obtain ⟨_,_,_,_,_,_,_,h,_⟩:=h
  cases h
 exact ⟨λvs H Q E h=>absurd h (no vs H Q E),λA outer s H args us vs Q E _ _ _ _ h=>absurd h (no vs H Q E)⟩
theorem A4 {K:PySem.W.Frag}{H:Hp}{a:Addr}{ns:List Int}{g:List R->Option (R×List R)} (iy:RdK K H a (ns.map V.int))
  (hg:∃ rs,g [.val (.lst (ns.map D.int))]=some (.val (.bl true),rs)):spD K g [.ref a] H (λv _=>v=.bl true) λ_ _ _=>False:=by
 obtain ⟨rs,hg⟩:=hg
 have iZ:∀ ns:List Int,IsA K H (ns.map D.int) (ns.map V.int):=λns=>by
  induction ns with
  | nil=>exact IsA.nil
  | cons n ns ih=>exact IsA.cons (Is.int n) ih
 refine ⟨H,H,[.val (.lst (ns.map D.int))],.val (.bl true),rs,?_,rfl,hg,λv H' I' r g' hv=>mP (K:=K) (I:=I') hv⟩
 refine ⟨Same.refl _,Same.refl _,rfl,λi r e=>?_,λi j r r' v e e' m=>?_,λi ds e=>rfl⟩
 ·match i,e with
  | 0,e=>cases e;exact ⟨_,rfl,Is.lst iy (iZ ns)⟩
 ·match i,e with
  | 0,e=>cases e;cases m
theorem wx {P:Program}{w:World}{K:PySem.W.Frag}{mg mb:Str->Option Value}{CX:CXT}{k:Nat}{fa a:Addr}{fd:FuncData}{x:Str}{sp:Sp}{al:Shared}{vs:List Value}{ns:List Int}
  (KX:K.In al.heap) (dU:al.heap.Ns mainGlobals mg) (hb:al.heap.Ns builtinsNs mb) (kc:∀ x:Str,x ≠ "__name__"->mb x=bootBuiltins x) (c7:al.heap.NoLimit) (hg:al.gens=#[])
  (ha:al.heap.get? a=some { cls:=.type "list", data:=.seq vs.toArray }) (hi:IntsAre vs ns) (hl:ns.length<=sizeLine) (hr:Room k callerA)
  (F:∀ base:Heap,K.In base->base.Ns mainGlobals mg->FnOk P w K mg base CX k fa fd [x] sp) (gM:∀ (s:Shared) (u:Value),BindsTo s fd ⟨[u],[]⟩ [(x,u)])
  (cw:∀ H:Hp,Only H->RdK K H a (ns.map V.int)->sp [.ref a] H (λv _=>v=.bl true) λ_ _ _=>False)
  (gN:∀ H e s',CX [] H al (λ_ _ _=>False) e s'->False) :
  codeAny (model P w) callerA (.call (.ref fa) ⟨[.ref a],[]⟩) (λr s'=>r=.ok (.ret (.bool true))/\OldK al.heap s'.heap/\s'.os=al.os/\AllBare s'.gens) al:=by
 have rv:=u3 hi
 have i0:=hi.length
 -- from an abstract heap in which nothing but the script may be bM
 have fE:∀ H:Hp,Only H->RdK K H a (ns.map V.int)->HOk P w H al.heap->(∀ b,H b≠none->b=a)->(H a≠none->K.lookup a=none) →
   codeAny (model P w) callerA (.call (.ref fa) ⟨[.ref a],[]⟩) (λr s'=>r=.ok (.ret (.bool true))/\OldK al.heap s'.heap/\s'.os=al.os/\AllBare s'.gens) al:=by
  intro H hO hS hok hA hK
  have cD:∀ {b:Addr}{o:Obj},al.heap.get? b=some o->H b=none->(hidT al.heap H).get? b=some o:=λe n=>xx e n
  have dJ:∀ {b:Addr}{o:Obj}{es:Array DictEntry}{ep:Nat},al.heap.get? b=some o->o.data=.dict es ep->H b=none:=λ{b o es ep} e d=>by
   cases q:H b with
   | none=>rfl
   | some u =>
    have e':b=a:=hA b (by rw [q];simp)
    subst e'
    rw [ha] at e;cases e
    have d':seq vs.toArray _=Data.dict es ep:=d
    cases d'
  have eY:∀ {b:Addr}{m:Str->Option Value},al.heap.Ns b m->(hidT al.heap H).Ns b m:=λ{b m} ⟨o,es,ep,e,d,r⟩=>⟨o,es,ep,cD e (dJ e d),d,r⟩
  have i3:K.In (hidT al.heap H):=λb o e=>cD (KX b o e) (by
   cases q:H b with
   | none=>rfl
   | some u =>
    have e':b=a:=hA b (by rw [q];simp)
    subst e'
    rw [hK (by rw [q];simp)] at e;cases e)
  have hM:Mod K mg (hidT al.heap H):=⟨i3,eY dU,⟨mb,eY hb,kc⟩,let ⟨mc,h1,h2⟩:=c7;⟨mc,eY h1,h2⟩⟩
  have e0:Env0 P w K mg (hidT al.heap H) callerA [] al H:=⟨rfl,hM,λb o e=>we e,Nat.le_of_eq (xJ _ _),trivial,λb hb=>absurd (show b∈([]:List Addr) from hb) (by simp),hok,.of_eq hg⟩
  refine codeAny_mono ((F _ i3 (eY dU)).run callerA [] al H ⟨[.ref a],[]⟩ [.ref a] [.ref a] _ _ hr e0 (gM al (.ref a)) (.cons rfl .nil) (cw H hO hS)) λr s' h=>?_
  cases r with
  | error e=>exact (gN H e s' h).elim
  | ok fl =>
   cases fl with
   | next=>exact elim h
   | brk=>exact elim h
   | cont=>exact elim h
   | ret u =>
    obtain ⟨v,H',os,bare,un,i4,r',q⟩:=h
    have q':v=.bl true:=q
    subst q'
    obtain rfl:u=Value.bool true:=r'
    refine ⟨rfl,OldK.of_keep λb o e=>?_,os,bare⟩
    cases q:H b with
    | none=>exact un.keep b o e q (by intro z;exact absurd (show b∈([]:List Addr) from z) (by simp)) (by simp)
    | some u =>
     rcases hO b with z | ⟨ob,xs,z⟩
     ·rw [q] at z;cases z
     ·have z2:=un.frzs b ob _ z
      obtain ⟨e1,_⟩:=hok b _ z
      obtain ⟨e2,_⟩:=i4 b _ z2
      rw [e] at e1;cases e1
      exact e2
 cases hk:K.lookup a with
 | some o =>
  -- the script is one of the module's own objects
  have e:=KX a o hk
  rw [ha] at e
  cases e
  refine fE (λ_=>none) (λ_=>.inl rfl) (.inr ⟨vs,_,hk,rv,by rw [i0];exact hl⟩) (λb u z=>by have z':(none:Option HO)=some u:=z;cases z') (λb z=>absurd rfl z) λz=>absurd rfl z
 | none =>
  refine fE (λb=>if b=a then some (.frz { cls:=.type "list", data:=.seq vs.toArray } (.lst (ns.map V.int))) else none) (λb=>?_) (.inl (.inr ⟨{ cls:=.type "list", data:=.seq vs.toArray },if_pos rfl⟩)) (λb u z=>?_) (λb z=>?_) λ_=>hk
  ·by_cases hb:b=a
   ·exact .inr ⟨_,_,if_pos hb⟩
   ·exact .inl (if_neg hb)
  ·by_cases hb:b=a
   ·have z':=(if_pos hb).symm.trans z
    cases z'
    subst hb
    exact ⟨ha,by rw [length_map];exact hl,vs,_,rv,ha⟩
   ·have z':=(if_neg hb).symm.trans z
    cases z'
  ·by_cases hb:b=a
   ·exact hb
   ·exact absurd (if_neg hb) z
theorem yJ {l:PySem.W.OpenLaw}{n k:Nat}{q:Program}{bz:List Str}{XP:(Str->Option Value)->Heap->Prop}{YP:World->Heap->Prop}{d:DefRec}{K:Params->PySem.W.Frag}{CX:World->CXT}{sp:World->Sp}{x:Str}
  (hn:l.most=some n) (gO:n<=sizeLine) (dO:d.params.defaults=[]) (hr:Room k callerA)
  (hY:∀ (w:World) (h:Heap),YP w h->(K w.params).In h)
  (F:∀ (w:World) (mg:Str->Option Value) (fa:Addr) (h:Heap),(K w.params).In h->h.Ns mainGlobals mg->mg d.name=some (.ref fa) →
   ∃ fd:FuncData,(∀ (s:Shared) (u:Value),BindsTo s fd ⟨[u],[]⟩ [(x,u)]) ∧
    ∀ base:Heap,(K w.params).In base->base.Ns mainGlobals mg->FnOk l.prog w (K w.params) mg base (CX w) k fa fd [x] (sp w))
  (cw:∀ (w:World) (H:Hp) (a:Addr) (ns:List Int),ns.length<=n->Only H->RdK (K w.params) H a (ns.map V.int)->sp w [.ref a] H (λv _=>v=.bl true) λ_ _ _=>False)
  (gN:∀ (w:World) (H:Hp) (s:Shared) (e:Value) (s':Shared),CX w [] H s (λ_ _ _=>False) e s'->False) :
  PySem.W.WalkO q bz XP YP l.row.toRowW d [] (λf vs=>PySem.call f vs):=by
 refine Att.zf hn dO λw s₀ al mg mb fa o pm cd aZ a vs ns G l8 ho hd bh dP dQ cJ aE hg=>?_
 have KX:=hY w _ l8
 obtain ⟨fd,hb,hF⟩:=F w mg fa _ KX G.T.g dP
 exact wx KX G.T.g G.T.b G.T.builtins G.T.nolimit hg dQ cJ (le_trans aE gO) hr hF hb (λH hO hS=>cw w H a ns aE hO hS) λH e s'=>gN w H al e s'
noncomputable def un1 {α:Type} (F:D->Option α) (g:M D):M α:=bnd g λd=>lft (F d)
inductive Ki where
 | iT | sT | bT | tT | lT
section
variable {X:Cx}{B:BB}{e:Expr}{ga:M D}{pos:Pos}
noncomputable def negI (d:D):Option D:=match d with
 | .int i=>some (.int (-i))
 | _=>none
theorem Aa:∀ U H Q,tD X.K B (un1 negI ga) U H Q->tUn (rU λi=>.int (-i)) (tD X.K B ga) U H Q:=λU H Q q=>by
 obtain ⟨G,I,Γ,d,ac,r,e1,k⟩:=q
 obtain ⟨d1,Γ1,e2,e3⟩:=i' e1
 obtain ⟨e4,rfl⟩:=mr e3
 unfold negI at e4
 split at e4
 ·cases e4
  exact ⟨G,I,Γ,_,_,r,e2,λv H1 I1 r1 g1 h1=>⟨_,mn h1,k _ _ _ r1 g1 (Is.int _)⟩⟩
 ·cases e4
theorem pq (ha:ED X B e ga):ED X B (.UnaryOp .USub e pos) (un1 negI ga):=PE.imp (wf Br ha) Aa
end
end DL
namespace PySem.SeqAt
def RcLtAt (A:Around) (s:Shared) (y x:Value) (b:Bool):Prop :=
 ∀ (prog:Program) (w:World) (E:Value->Shared->Prop) (Q:Value->Shared->Prop),Q (.bool b) s->wpAny (model prog w) A (richCompare .Lt y x) Q E s
noncomputable def ltFrom (e lt:Nat->Bool) (d:Bool):List Nat->Bool
 | []=>d
 | i::r=>if e i then ltFrom e lt d r else lt i
theorem xa (u v:Addr) (us vs:Array Value) (p q:Nat) (du dv:Option Addr) (ku kv:Array (Option Value)) (e lt:Nat->Bool) :
  Meets (Builtin.«tuple.__lt__» ⟨[.ref u,.ref v],[]⟩) (λA bi s=>(s.heap.get? u=some ⟨.type "tuple", du,.seq us p,ku⟩/\s.heap.get? v=some ⟨.type "tuple", dv,.seq vs q,kv⟩) ∧
    (∀ j (h1:j < us.size) (h2:j < vs.size),EqAt A.in1 s us[j] vs[j] (e j)/\(e j=false->RcLtAt A.in1 s us[j] vs[j] (lt j)))/\bi (.ok (.ret (.bool (ltFrom e lt (decide (us.size < vs.size)) (range (min us.size vs.size)))))) s) :=
 .of_wp λprog w A bi s given=>by
  obtain ⟨hp,gn,dw,tk,os⟩:=s
  obtain ⟨⟨gu,gv⟩,ef,i5⟩:=given
  obtain ⟨eg,hs⟩:∃ eg:Nat->Prop,eg=λi=>bi (.ok (.ret (.bool (ltFrom e lt (decide (us.size < vs.size)) ((range (min us.size vs.size)).drop i))))) ⟨hp,gn,dw,tk,os⟩:=⟨_,rfl⟩
  have fD:=AutoSeq1.sub_tuple_tuple
  have len:(us.toList.zip vs.toList).length=min us.size vs.size:=by rw [List.length_zip];rfl
  wp_walk using AutoSeq1.wpAny_loadPart' gu,AutoSeq1.wpAny_loadPart' gv,wpAny_forIn_list _ (λleft cQ now=>cQ.1=none/\now=⟨hp,gn,dw,tk,os⟩/\∃ i,left=(us.toList.zip vs.toList).drop i/\eg i) _
  case turn =>
   rintro ⟨y,x⟩ left cQ now ⟨bD,rfl,i,bc,say⟩
   have bH:i < min us.size vs.size:=by
    rw [← len]
    exact Nat.lt_of_not_le λno=>by rw [List.drop_eq_nil_of_le no] at bc;exact List.cons_ne_nil _ _ bc
   have k1:i < us.size:=by omega
   have k2:i < vs.size:=by omega
   have cut:=drop_eq_getElem_cons (l:=us.toList.zip vs.toList) (i:=i) (len▸bH)
   rw [← bc,List.getElem_zip] at cut
   obtain ⟨yx,tail⟩:=List.cons.inj cut
   obtain ⟨rfl,rfl⟩:=Prod.mk.inj yx
   rw [hs] at say
   have fF:=drop_eq_getElem_cons (l:=range (min us.size vs.size)) (i:=i) (by simpa using bH)
   rw [getElem_range] at fF
   rw [fF,ltFrom] at say
   have two:=ef i k1 k2
   refine wpAny_bind (two.1 prog w _ _ ?_)
   cases like:e i with
   | true =>
    rw [like,if_pos rfl] at say
    wp_walk
    exact ⟨rfl,rfl,i+1,tail,by rw [hs];exact say⟩
   | false =>
    rw [like,if_neg Bool.false_ne_true] at say
    refine wpAny_bind (wpAny_rule (wpAny_bind (two.2 like prog w _ _ ?_)))
    wp_walk
    exact ⟨_,rfl,say⟩
  case fin =>
   rintro ⟨cQ,_⟩ now ⟨bD,rfl,i,bc,say⟩
   cases bD
   have i6:min us.size vs.size<=i:=by
    rw [← len]
    exact List.drop_eq_nil_iff.mp bc.symm
   rw [hs] at say
   rw [List.drop_eq_nil_of_le (by simpa using i6),ltFrom] at say
   wp_walk
   exact ⟨_,rfl,by simpa [Builtin.Tuple.tupleCompareSizes] using say⟩
  case h=>exact ⟨rfl,rfl,0,rfl,by rw [hs];exact i5⟩
theorem RcLtAt.tuples {A:Around}{s:Shared}{u v:Addr}{us vs:Array Value}{e lt:Nat->Bool} (hu:s.heap.IsTuple u us) (hv:s.heap.IsTuple v vs) (eh:A.units < cLine)
  (ef:∀ j (h1:j < us.size) (h2:j < vs.size),EqAt A.in1 s us[j] vs[j] (e j)/\(e j=false->RcLtAt A.in1 s us[j] vs[j] (lt j))):RcLtAt A s (.ref u) (.ref v) (ltFrom e lt (decide (us.size < vs.size)) (range (min us.size vs.size))):=by
 obtain ⟨⟨_,du,_,ku⟩,gu,rfl,p,rfl⟩:=hu
 obtain ⟨⟨_,dv,_,kv⟩,gv,rfl,q,rfl⟩:=hv
 exact λprog w E Q h=>richCompare_meets_room (op:=.Lt) ⟨_,gu,rfl⟩ ⟨_,gv,rfl⟩ F.slot_tuple_lt F.entry_tuple_lt (F.args_tuple_lt_2 _ _) (xa u v us vs p q du dv ku kv e lt) ⟨⟨gu,gv⟩,ef,Value.noConfusion,h⟩ eh
theorem RcLtAt.int_int {A:Around}{s:Shared} (a:Int) (t:Tok) (b:Int) (u:Tok):RcLtAt A s (.int a t) (.int b u) (decide (a < b)):=λprog w E Q h=>PyProof.Rows.lt_int h
end PySem.SeqAt
namespace DL
open PySem PySem.Spec PyProof.Rows L2
section
variable {X:Cx}{B:BB}{a b c e:Expr}{es:List Expr}{pos:Pos}
noncomputable def rngV (n:Nat):List V:=(range n).map λ(k:Nat)=>V.int (0+(k:Int))
theorem qR:∀ {xs:List V}{us:List Value},xs.length=us.length->(∀ (i:Nat) x u,xs[i]?=some x->us[i]?=some u->RelV x u)->Vals xs us
 | [],[],_,_=>.nil
 | [],_::_,h,_=>by cases h
 | _::_,[],h,_=>by cases h
 | x::xs,u::us,h,k=>.cons (k 0 x u rfl rfl) (qR (Nat.succ.inj h) λi y v e f=>k (i+1) y v e f)
theorem BM {ta:TA}{p p2 bJ:Pos} (hc:X.calm=true) (hl:Gl X "list") (gP:X.mg "list"=none) (hg:Gl X "range") (hm:X.mg "range"=none) (ha:PA X [a] ta)
  (hs:starEach [a] X.env=[(false,eval a X.env)]:=by rfl) (bw:starEach [.Call (.Name "range" p2) [a] [] bJ] X.env=[(false,eval (.Call (.Name "range" p2) [a] [] bJ) X.env)]:=by rfl) :
  PE X (.Call (.Name "list" p) [.Call (.Name "range" p2) [a] [] bJ] [] pos) (λU H Q=>ta U H λvs H1=>∃ j:Int,vs=[.int j]/\-1000000<=j/\j<=1000000/\∀ l,H1 l=none->Q (.ref l) (upd H1 l (.lst (rngV j.toNat)))):=by
 intro aa s U H Q I h
 refine Call_ (nw I hl gP boot_list (PyProof.Rows.callWith_type1 ?_ bw rfl))
 rw [bw]
 refine Calls.spliced_cons (Call_ (nw I hg hm boot_range (PyProof.Rows.callWith_type1 (thn (ha bJ aa s U H _ I h) λus s1 ⟨vs,H1,I1,r1,q1⟩=>?_) hs rfl)))
 obtain ⟨j,rfl,q1,q2,q⟩:=q1
 obtain ⟨u,rfl,t,rfl⟩:=vals1 r1
 refine call_range_1 (Calls.spliced_nil ?_)
 have size:rangeSize 0 j 1=j.toNat:=by rw [rangeSize_one];split<;>omega
 refine call_list_range (I1.ok.hd hc) (IsRange.new ..) (small_one (by decide) (by decide) (by omega) (by omega)) size (by omega) λg tk ao c' keep bc ag=>?_
 refine ⟨.ref _,_,I1.laid (t':=tk) (λb o e=>keep b o (get?_push_of_some _ e)) ?_ (o:=.lst (rngV j.toNat)) ⟨?_,ao.toList,c',?_,bc⟩,rfl,q _ ?_⟩
 ·exact le_of_lt (by show _ < (Heap.push _ _).objs.size;rw [size_push];exact Nat.lt_succ_self _)
 ·show (rngV j.toNat).length<=sizeLine
  rw [rngV,length_map,length_range,sizeLine_eq];omega
 ·refine qR (by rw [rngV,length_map,length_range,length_toList,ag.1]) λi x u e f=>?_
  rw [Array.getElem?_toList] at f
  obtain ⟨t',rfl⟩:=ag.2 i u f
  obtain ⟨k,e1,rfl⟩:=getMap e
  obtain ⟨k1,k2⟩:=List.getElem?_eq_some_iff.mp e1
  rw [getElem_range] at k2
  subst k2
  exact ⟨t',by simp⟩
 ·refine I1.hok.fresh (le_of_lt ?_)
  show _ < (Heap.push _ _).objs.size
  rw [size_push];exact Nat.lt_succ_self _
theorem AS {K:PySem.W.Frag}{I:Hp} (n:Nat):IsA K I (rngD 0 n) (rngV n):=by
 unfold rngD rngV
 induction range n with
 | nil=>exact IsA.nil
 | cons k ks ih=>exact IsA.cons (Is.int _) ih
theorem zN {p p2 bJ:Pos}{t:M (List D)} (hc:X.calm=true) (hl:Gl X "list") (gP:X.mg "list"=none) (hg:Gl X "range") (hm:X.mg "range"=none) (ha:AD X B [a] t)
  (hs:starEach [a] X.env=[(false,eval a X.env)]:=by rfl) (bw:starEach [.Call (.Name "range" p2) [a] [] bJ] X.env=[(false,eval (.Call (.Name "range" p2) [a] [] bJ) X.env)]:=by rfl) :
  EO X B (.Call (.Name "list" p) [.Call (.Name "range" p2) [a] [] bJ] [] pos) (fn1 rngI1 t):=PE.imp (BM hc hl gP hg hm ha hs bw) λU H Q q=>by
 obtain ⟨G,I,Γ,ds,ac,r,e1,k⟩:=q
 obtain ⟨d,Γ1,e2,e3⟩:=i' e1
 obtain ⟨e4,rfl⟩:=mr e3
 obtain ⟨j,rfl,⟨h1,h2⟩,rfl⟩:=uk e4
 refine ⟨G,I,Γ,_,_,r,e2,λvs H1 I1 r1 g1 hd=>?_⟩
 obtain ⟨x,rfl,hx⟩:=hd.one
 exact ⟨j,by rw [mn hx],h1,h2,λl hl=>(k.after g1).new r1 hl (AS _)⟩
end
section
variable {X:Cx}{B:BB}{a b c e:Expr}{es:List Expr}{pos:Pos}{kr:Nat}
open PySem.SeqAt in
end
end DL
namespace DL
open PySem PySem.W PyProof.Rows
structure Ord (lt:Nat->Nat->Bool):Prop where
 as:∀ a b,lt a b=true->lt b a=false
 tr:∀ a b c,lt b a=false->lt c b=false->lt c a=false
section
variable {n:Nat}{lt:Nat->Nat->Bool}{s:Shared}
def askIn (n:Nat) (lt:Nat->Nat->Bool):Nat->Nat->(Bool->Shared->Prop)->Shared->Prop:=λi j C s=>i < n/\j < n/\C (lt i j) s
noncomputable def gt (p:Array Nat) (i:Nat):Nat:=p.getD i 0
def Pm (n:Nat) (p:Array Nat):Prop:=p.Perm (range n).toArray
def Dn (lt:Nat->Nat->Bool) (p:Array Nat) (m:Nat):Prop:=∀ i j,i < j->j < m->lt (gt p i) (gt p j)=false
def Up (lt:Nat->Nat->Bool) (p:Array Nat) (m:Nat):Prop:=∀ i j,i < j->j < m->lt (gt p j) (gt p i)=false
def Eqs (lt:Nat->Nat->Bool) (p:Array Nat) (a b:Nat):Prop:=∀ i j,a<=i->i < b->a<=j->j < b->lt (gt p i) (gt p j)=false
theorem Pm.size {p:Array Nat} (h:Pm n p):p.size=n:=by
 have:=h.size_eq
 simpa using this
theorem Pm.bd {p:Array Nat} (h:Pm n p) (pos:0 < n) (i:Nat):gt p i < n:=by
 unfold gt
 by_cases hi:i < p.size
 ·have:p[i]∈(range n).toArray:=h.mem_iff.mp (Array.getElem_mem hi)
  rw [getD,dif_pos hi]
  simpa using this
 ·rw [getD,dif_neg hi]
  exact pos
theorem qd {p:Array Nat}{i:Nat}:gt p i=p[i]?.getD 0:=by
 unfold gt
 exact Array.getD_eq_getD_getElem? ..
theorem nO {p:Array Nat}{i j:Nat} (hj:j<=p.size) (k:Nat):gt (kas_rev p i j) k=if i<=k/\k < j then gt p (i+j - 1 - k) else gt p k:=by
 rw [qd,qd,qd]
 unfold kas_rev
 rw [getElem?_mirror_all hj]
 split<;>rfl
theorem u5 {p:Array Nat}{bC d:Nat} (hs:bC < p.size) (hd:d<=bC) (k:Nat):gt (bubble p bC d) k=if k=bC - d then gt p bC else if bC - d < k/\k<=bC then gt p (k - 1) else gt p k:=by
 simp only [qd]
 rw [getElem?_bubble hs d hd]
 split
 ·rfl
 ·split<;>rfl
theorem Pm.rev {p:Array Nat} (h:Pm n p) (i j:Nat):Pm n (kas_rev p i j):=trans (mirror_perm _ _ _ _) h
theorem qx {α:Type}{i7:Nat->Nat->(Bool->Shared->Prop)->Shared->Prop}{Q:α->Shared->Prop}{P:α->Prop} (hc:∀ i j C,i < n->j < n->C (lt i j) s->i7 i j C s) (hq:∀ a,P a->Q a s):∀ t:KasT α,t.kasWp (askIn n lt) (λa _=>P a) s->t.kasWp i7 Q s
 | .ret a,h=>hq a h
 | .ask i j k,⟨h1,h2,h3⟩=>hc i j _ h1 h2 (qx hc hq (k (lt i j)) h3)
theorem oP {α Y:Type}{t:KasT α}{f:α->KasT Y}{P:α->Prop}{Q:Y->Prop} (h:t.kasWp (askIn n lt) (λa _=>P a) s) (k:∀ a,P a->(f a).kasWp (askIn n lt) (λb _=>Q b) s):(t.bind f).kasWp (askIn n lt) (λb _=>Q b) s:=by
 rw [KasT.kasWp_bind]
 exact qx (λi j C h1 h2 h3=>⟨h1,h2,h3⟩) (λa ha=>k a ha) t h
variable (O:Ord lt) (two:2<=n)
include O
theorem Ord.irr (a:Nat):lt a a=false:=by
 cases h:lt a a with
 | false=>rfl
 | true=>rw [← h];exact O.as a a h
theorem Ord.lt_le {a b c:Nat} (h1:lt a b=true) (h2:lt c b=false):lt a c=true:=by
 cases h:lt a c with
 | true=>rfl
 | false =>
  -- c<=a,b<=c
  have:=O.tr b c a h2 h
  rw [this] at h1;cases h1
include two
theorem sH {p:Array Nat} (hp:Pm n p):∀ (f m:Nat),1<=m->(kas_asc p f m).kasWp (askIn n lt) (λm' _=>m<=m'/\m'<=m+f/\(∀ k,m<=k->k < m'->lt (gt p k) (gt p (k - 1))=false)/\(m' < m+f->lt (gt p m') (gt p (m' - 1))=true)) s
 | 0,m,_=>by
  rw [kas_asc]
  exact ⟨le_refl _,le_refl _,λk h1 h2=>by omega,λh=>by omega⟩
 | f+1,m,hm=>by
  rw [kas_asc]
  refine ⟨hp.bd (by omega) m,hp.bd (by omega) (m - 1),?_⟩
  cases h:lt (p.getD m 0) (p.getD (m - 1) 0) with
  | true =>
   dsimp only;rw [if_pos rfl]
   exact ⟨le_refl _,by omega,λk h1 h2=>by omega,λ_=>h⟩
  | false =>
   dsimp only;rw [if_neg Bool.false_ne_true]
   refine qx (λi j C h1 h2 h3=>⟨h1,h2,h3⟩) (λm' h'=>?_) _ (sH hp f (m+1) (by omega))
   obtain ⟨a1,a2,a3,a4⟩:=h'
   refine ⟨by omega,by omega,λk h1 h2=>?_,λh'=>a4 (by omega)⟩
   by_cases z:k=m
   ·rw [z];exact h
   ·exact a3 k (by omega) h2
omit two in
theorem Up.of_steps {p:Array Nat}{m m':Nat} (hm:Up lt p m) (st:∀ k,m<=k->k < m'->1<=k->lt (gt p k) (gt p (k - 1))=false):Up lt p m':=by
 intro i j
 induction j with
 | zero=>intro h;omega
 | succ j ih =>
  intro bY hj
  by_cases z:j+1 < m
  ·exact hm i (j+1) bY z
  ·have s1:=st (j+1) (by omega) hj (by omega)
   rw [Nat.add_sub_cancel] at s1
   by_cases e:i=j
   ·rw [e];exact s1
   ·exact O.tr _ _ _ (ih (by omega) (by omega)) s1
omit two O in
theorem Dn.up {p:Array Nat}{m:Nat} (hm:m<=p.size) (h:Dn lt p m):Up lt (kas_rev p 0 m) m:=by
 intro i j bY hj
 rw [nO hm,nO hm,if_pos ⟨zero_le _,hj⟩,if_pos ⟨zero_le _,by omega⟩]
 exact h _ _ (by omega) (by omega)
omit two O in
theorem Dn.turn {p:Array Nat}{m a:Nat} (hm:m<=p.size) (h:Dn lt p m) (e:Eqs lt p a m):Dn lt (kas_rev p a m) m:=by
 intro i j bY hj
 rw [nO hm,nO hm]
 by_cases h1:a<=i
 ·rw [if_pos ⟨h1,by omega⟩,if_pos ⟨by omega,hj⟩]
  exact e _ _ (by omega) (by omega) (by omega) (by omega)
 ·rw [if_neg (by omega)]
  by_cases h2:a<=j
  ·rw [if_pos ⟨h2,hj⟩]
   exact h _ _ (by omega) (by omega)
  ·rw [if_neg (by omega)]
   exact h _ _ bY hj
omit two in
theorem Dn.next {p:Array Nat}{m:Nat} (h:Dn lt p m) (hm:1<=m) (st:lt (gt p (m - 1)) (gt p m)=false):Dn lt p (m+1):=by
 intro i j bY hj
 by_cases z:j < m
 ·exact h i j bY z
 ·have:j=m:=by omega
  subst this
  by_cases e:i=j - 1
  ·rw [e];exact st
  ·exact O.tr _ _ _ st (h i (j - 1) (by omega) (by omega))
theorem qu:∀ (f:Nat) (p:Array Nat) (m q:Nat),Pm n p->1<=m->m+f<=n->q < m->Dn lt p m->Eqs lt p (m - (q+1)) m →
  (kas_desc f p m q).kasWp (askIn n lt) (λr _=>Pm n r.1/\1<=r.2.1/\r.2.1<=n/\r.2.2 < r.2.1/\Dn lt r.1 r.2.1/\Eqs lt r.1 (r.2.1 - (r.2.2+1)) r.2.1) s
 | 0,p,m,q,hp,h1,h2,h3,h4,h5=>by
  rw [kas_desc]
  exact ⟨hp,h1,(by show m<=n;omega),h3,h4,h5⟩
 | f+1,p,m,q,hp,h1,h2,h3,h4,h5=>by
  rw [kas_desc]
  have one:∀ (p':Array Nat),Pm n p'->Eqs lt p' (m+1 - (0+1)) (m+1):=λp' _ i j a b c d=>by
   have:i=m:=by omega
   have:j=m:=by omega
   subst i;subst j
   exact O.irr _
  refine ⟨hp.bd (by omega) m,hp.bd (by omega) (m - 1),?_⟩
  cases h:lt (p.getD m 0) (p.getD (m - 1) 0) with
  | true =>
   dsimp only;rw [if_pos rfl]
   have st:lt (gt p (m - 1)) (gt p m)=false:=O.as _ _ h
   split
   ·have sz:m<=p.size:=by rw [hp.size];omega
    refine qu f _ (m+1) 0 (hp.rev _ _) (by omega) (by omega) (by omega) (Dn.next O (h4.turn sz h5) h1 ?_) (one _ (hp.rev _ _))
    rw [nO sz,nO sz,if_pos ⟨by omega,by omega⟩,if_neg (by omega)]
    refine O.tr _ _ _ st ?_
    exact h5 _ _ (by omega) (by omega) (by omega) (by omega)
   ·exact qu f _ (m+1) 0 hp (by omega) (by omega) (by omega) (Dn.next O h4 h1 st) (one _ hp)
  | false =>
   dsimp only;rw [if_neg Bool.false_ne_true]
   refine ⟨hp.bd (by omega) (m - 1),hp.bd (by omega) m,?_⟩
   cases h':lt (p.getD (m - 1) 0) (p.getD m 0) with
   | true =>
    dsimp only;rw [if_pos rfl]
    exact ⟨hp,h1,(by show m<=n;omega),h3,h4,h5⟩
   | false =>
    dsimp only;rw [if_neg Bool.false_ne_true]
    refine qu f p (m+1) (q+1) hp (by omega) (by omega) (by omega) (Dn.next O h4 h1 h') λi j a b c d=>?_
    have up:∀ i,m - (q+1)<=i->i < m->lt (gt p i) (gt p m)=false:=λi x y=>O.tr _ _ _ h' (h5 i (m - 1) x y (by omega) (by omega))
    have dn:∀ i,m - (q+1)<=i->i < m->lt (gt p m) (gt p i)=false:=λi x y=>O.tr _ _ _ (h5 (m - 1) i (by omega) (by omega) x y) h
    by_cases zi:i=m
    ·by_cases zj:j=m
     ·rw [zi,zj];exact O.irr _
     ·rw [zi];exact dn j (by omega) (by omega)
    ·by_cases zj:j=m
     ·rw [zj];exact up i (by omega) (by omega)
     ·exact h5 i j (by omega) (by omega) (by omega) (by omega)
theorem vI {p:Array Nat}{m:Nat} (hp:Pm n p) (h1:1<=m) (h2:m<=n) (h:Dn lt p m):(kas_tail3 m n p).kasWp (askIn n lt) (λr _=>1<=r.1/\r.1<=n/\Pm n r.2/\Up lt r.2 r.1) s:=by
 unfold kas_tail3
 refine oP (sH O two (hp.rev 0 m) (n - m) m h1) λm' ⟨a1,a2,a3,_⟩=>?_
 have up:=h.up (by rw [hp.size];exact h2)
 exact ⟨by omega,by omega,hp.rev 0 m,Up.of_steps O up λk x y _=>a3 k x y⟩
theorem t7 {p:Array Nat}{m:Nat} (hp:Pm n p) (h1:1<=m) (h2:m < n) (h:Dn lt p (m+1)):(kas_descPart m n p).kasWp (askIn n lt) (λr _=>1<=r.1/\r.1<=n/\Pm n r.2/\Up lt r.2 r.1) s:=by
 unfold kas_descPart
 refine oP (qu O two (n - (m+1)) p (m+1) 0 hp (by omega) (by omega) (by omega) h λi j a b c d=>?_) λr ⟨b1,b2,b3,b4,b5,b6⟩=>?_
 ·have:i=m:=by omega
  have:j=m:=by omega
  subst i;subst j
  exact O.irr _
 ·split
  ·exact vI O two (b1.rev _ _) b2 b3 (b5.turn (by rw [b1.size];exact b3) b6)
  ·exact vI O two b1 b2 b3 b5
theorem xn {p:Array Nat} (hp:Pm n p):(kas_count n p).kasWp (askIn n lt) (λr _=>1<=r.1/\r.1<=n/\Pm n r.2/\Up lt r.2 r.1) s:=by
 unfold kas_count
 refine oP (sH O two hp (n - 1) 1 (le_refl _)) λm ⟨a1,a2,a3,a4⟩=>?_
 have up1:Up lt p m:=Up.of_steps O (m:=1) (λi j x y=>by omega) λk x y z=>a3 k x y
 split
 ·exact ⟨a1,by omega,hp,up1⟩
 ·rename_i ne
  have ne:m≠n:=by simpa using ne
  have c8:=a4 (by omega)
  split
  ·refine ⟨hp.bd (by omega) 0,hp.bd (by omega) (m - 1),?_⟩
   cases h:lt (p.getD 0 0) (p.getD (m - 1) 0) with
   | true =>
    dsimp only;rw [if_pos rfl]
    exact ⟨a1,by omega,hp,up1⟩
   | false =>
    dsimp only;rw [if_neg Bool.false_ne_true]
    have all:Eqs lt p 0 m:=λi j x1 x2 y1 y2=>by
     -- the first is not less than the c8,and they rise
     have l0:∀ i,i < m->lt (gt p i) (gt p 0)=false:=λi x=>by
      by_cases z:i=0
      ·rw [z];exact O.irr _
      ·exact up1 0 i (by omega) x
     have lz:∀ j,j < m->lt (gt p (m - 1)) (gt p j)=false:=λj x=>by
      by_cases z:j=m - 1
      ·rw [z];exact O.irr _
      ·exact up1 j (m - 1) (by omega) (by omega)
     -- i against j: i<=c8<=first<=j,whichever
     have f1:lt (gt p i) (gt p (m - 1))=false:=O.tr _ _ _ h (l0 i x2)
     exact O.tr _ _ _ (lz j y2) f1
    have sz:m<=p.size:=by rw [hp.size];omega
    have all2:Dn lt (kas_rev p 0 m) m:=Dn.turn sz (λi j x y=>all i j (zero_le _) (by omega) (zero_le _) y) all
    refine t7 O two (hp.rev _ _) a1 (by omega) (Dn.next O all2 a1 ?_)
    rw [nO sz,nO sz,if_pos ⟨zero_le _,by omega⟩,if_neg (by omega)]
    refine O.tr _ _ _ (O.as _ _ c8) ?_
    exact all _ _ (zero_le _) (by omega) (zero_le _) (by omega)
  ·have:m=1:=by omega
   subst this
   exact t7 O two hp (le_refl _) (by omega) (Dn.next O (λi j x y=>by omega) (le_refl _) (O.as _ _ c8))
theorem rZ {p:Array Nat}{k:Nat} (hp:Pm n p) (hk:k < n) (up:Up lt p k):∀ (f l r:Nat),l<=r->r<=k->r - l<=f->(∀ i,i < l->lt (gt p k) (gt p i)=false)->(∀ i,r<=i->i < k->lt (gt p k) (gt p i)=true) →
  (kas_place p k f l r).kasWp (askIn n lt) (λl' _=>l'<=k/\(∀ i,i < l'->lt (gt p k) (gt p i)=false)/\∀ i,l'<=i->i < k->lt (gt p k) (gt p i)=true) s
 | 0,l,r,h1,h2,h3,h4,h5=>by
  rw [kas_place]
  exact ⟨by omega,h4,λi x y=>h5 i (by omega) y⟩
 | f+1,l,r,h1,h2,h3,h4,h5=>by
  rw [kas_place]
  split
  ·exact ⟨by omega,h4,λi x y=>h5 i (by omega) y⟩
  ·refine ⟨hp.bd (by omega) k,hp.bd (by omega) _,?_⟩
   cases h:lt (p.getD k 0) (p.getD ((l+r) / 2) 0) with
   | true =>
    dsimp only;rw [if_pos rfl]
    refine rZ hp hk up f l ((l+r) / 2) (by omega) (by omega) (by omega) h4 λi x y=>?_
    by_cases z:i=(l+r) / 2
    ·rw [z];exact h
    ·exact O.lt_le h (up _ _ (by omega) y)
   | false =>
    dsimp only;rw [if_neg Bool.false_ne_true]
    refine rZ hp hk up f ((l+r) / 2+1) r (by omega) (by omega) (by omega) (λi x=>?_) h5
    by_cases z:i=(l+r) / 2
    ·rw [z];exact h
    ·exact O.tr _ _ _ (up i ((l+r) / 2) (by omega) (by omega)) h
theorem vJ:∀ (f:Nat) (p:Array Nat) (k:Nat),Pm n p->Up lt p k->1<=k->k+f=n->(kas_bin f p k).kasWp (askIn n lt) (λp' _=>Pm n p'/\Up lt p' n) s
 | 0,p,k,hp,up,h1,h2=>by
  rw [kas_bin]
  have:k=n:=by omega
  subst this
  exact ⟨hp,up⟩
 | f+1,p,k,hp,up,h1,h2=>by
  rw [kas_bin]
  refine oP (rZ O two hp (by omega) up k 0 k (zero_le _) (le_refl _) (by omega) (λi h=>by omega) λi x y=>by omega) λl ⟨c1,c2,c3⟩=>?_
  refine vJ f _ (k+1) (trans (bubble_perm _ _ _) hp) (λi j bY hj=>?_) (by omega) (by omega)
  have hk:k < p.size:=by rw [hp.size];omega
  rw [u5 hk (by omega),u5 hk (by omega),show k - (k - l)=l by omega]
  by_cases j1:j=l
  ·rw [if_pos j1,if_neg (by omega),if_neg (by omega)]
   exact c2 i (by omega)
  ·rw [if_neg j1]
   by_cases j2:l < j/\j<=k
   ·rw [if_pos j2]
    by_cases i1:i=l
    ·rw [if_pos i1]
     exact O.as _ _ (c3 (j - 1) (by omega) (by omega))
    ·rw [if_neg i1]
     by_cases i2:l < i/\i<=k
     ·rw [if_pos i2];exact up _ _ (by omega) (by omega)
     ·rw [if_neg i2];exact up _ _ (by omega) (by omega)
   ·rw [if_neg j2,if_neg (by omega),if_neg (by omega)]
    exact up _ _ bY (by omega)
theorem xQ:(kas_sort n).kasWp (askIn n lt) (λp _=>Pm n p/\Up lt p n) s:=by
 unfold kas_sort
 refine oP (xn O two (p:=(range n).toArray) (Array.Perm.refl _)) λr ⟨a1,a2,a3,a4⟩=>?_
 split
 ·refine vJ O two _ _ _ a3 ?_ (by omega) (by omega)
  rw [Nat.max_eq_left a1]
  exact a4
 ·have:r.1=n:=by omega
  rw [this] at a4
  exact ⟨a3,a4⟩
end
end DL
namespace DL
open PySem PySem.W PySem.Spec PyProof.Rows
section
variable {prog:Program}{w:World}{A:Around}{E:Value->Shared->Prop}{s:Shared}
noncomputable def byP (vs:List Value) (p:Array Nat):List Value:=p.toList.map λi=>vs.getD i Value.none
theorem AV (vs:List Value):byP vs (range vs.length).toArray=vs:=by
 unfold byP
 refine List.ext_getElem (by simp) λi h1 h2=>?_
 simp [h2]
theorem zS {vs:List Value}{p:Array Nat} (h:Pm vs.length p):(byP vs p).length=vs.length:=by
 unfold byP
 rw [length_map,length_toList,h.size]
def KeptBut (a:Addr) (h h':Heap):Prop:=∀ b o,b≠a->h.get? b=some o->h'.get? b=some o
theorem Bz {a:Addr}{vs:List Value}{e:Nat}{κ:SortKind}{lt:Nat->Nat->Bool}{P:PySem.Fin->Shared->Prop} (ho:s.heap.get? a=some (seqObj "list" vs.toArray e)) (eZ:vs.length < 64) (O:Ord lt)
  (kind:∀ h' Q,KeptBut a s.heap h'->2<=vs.length->Q κ { s with heap:=h' }->wpAny (model prog w) A (keyKind' vs.toArray) Q E { s with heap:=h' })
  (less:∀ h' i j C,KeptBut a s.heap h'->i < vs.length->j < vs.length->C (lt i j) { s with heap:=h' }->wpAny (model prog w) A (keyLt' κ (vs.getD i Value.none) (vs.getD j Value.none)) C (λ_ _=>False) { s with heap:=h' })
  (fin:∀ p h' c,Pm vs.length p->Up lt p vs.length->KeptBut a s.heap h'->h'.get? a=some (seqObj "list" (byP vs p).toArray c)->P (.done (.ret .none)) { s with heap:=h' }) :
  wpAny (model prog w) A (Builtin.«list.sort» ⟨[.ref a],[]⟩) P E s:=by
 have line:64<=sizeLine:=by rw [sizeLine_eq];decide
 obtain ⟨g1,gQ⟩:∃ g1,g1=s.heap.update a (mapSeq λ_=>(#[]:Array Value)):=⟨_,rfl⟩
 obtain ⟨e1,o1⟩:∃ e1,g1.get? a=some (seqObj "list" #[] e1):=⟨_,by rw [gQ];exact get?_update_seq ho _⟩
 have k1:KeptBut a s.heap g1:=λb o ne x=>by rw [gQ];exact (get?_update_other _ _ (symm ne)).trans x
 obtain ⟨g2,gR⟩:∃ g2,g2=(g1.push (seqObj "tuple" vs.toArray 0)).push (seqObj "list" #[] 0):=⟨_,rfl⟩
 have o2:g2.get? a=some (seqObj "list" #[] e1):=by rw [gR];exact get?_push_of_some _ (get?_push_of_some _ o1)
 have k2:KeptBut a s.heap g2:=λb o ne x=>by rw [gR];exact get?_push_of_some _ (get?_push_of_some _ (k1 b o ne x))
 have fG:∀ gS,(2<=vs.length->gS=κ)->wpAny (model prog w) A ((if vs.toArray.size < 2 then pure () else sortRuns').run (SortSt.mk' gS (vs.toArray.zip vs.toArray) #[] 7 none))
   (λr s'=>s'={ s with heap:=g2 }/\∃ p,Pm vs.length p/\Up lt p vs.length/\(arrOf r.2).map (·.2)=(byP vs p).toArray/\failedOf r.2=none) E { s with heap:=g2 }:=λgS ke=>by
  rcases Nat.lt_or_ge vs.length 2 with cT | cf
  ·rw [if_pos (by rw [size_toArray];exact cT)]
   refine wpAny_pure ⟨rfl,(range vs.length).toArray,Array.Perm.refl _,λi j x y=>by omega,?_,rfl⟩
   rw [AV]
   show ((vs.toArray.zip vs.toArray).map (·.2))=_
   refine Array.ext (by simp) λi h1 h2=>by simp
  ·rw [if_neg (by rw [size_toArray];omega),ke cf]
   refine kat_run (ks:=vs) (vs:=vs) (G:=λp s'=>(Pm vs.length p/\Up lt p vs.length)/\s'={ s with heap:=g2 }) (Q:=λst s'=>s'={ s with heap:=g2 }/\∃ p,Pm vs.length p/\Up lt p vs.length/\(arrOf st).map (·.2)=(byP vs p).toArray/\failedOf st=none) rfl cf eZ ?_ ?_
   ·rintro p st s' hz gT bD ⟨⟨hp,up⟩,rfl⟩
    exact ⟨rfl,p,hp,up,kat_snds rfl gT,bD⟩
   ·exact qx (P:=λp=>Pm vs.length p/\Up lt p vs.length) (λi j C h1 h2 h3=>less g2 i j C k2 h1 h2 h3) (λp hp=>⟨hp,rfl⟩) _ (xQ O cf)
 rw [list_sort_plain]
 refine wpAny_bind (listItems_at ho rfl (wpAny_bind (listUpdate_at ho rfl ?_ (by rw [size_toArray];omega) (zero_le _))))
 rw [← gQ]
 refine wpAny_bind (seqEpoch_at o1 rfl (wpAny_bind (wpAny_newTuple (wpAny_bind (wpAny_newList (wpAny_holding ?_) (zero_le _))) (by show vs.length<=_;omega))))
 show wpAny (model prog w) A _ P E { s with heap:=(g1.push (seqObj "tuple" vs.toArray 0)).push (seqObj "list" #[] 0) }
 rw [← gR]
 dsimp only
 rcases Nat.lt_or_ge vs.length 2 with cT | cf
 all_goals
  first
   | (rw [if_pos (by rw [size_toArray];exact cT)];refine wpAny_bind (wpAny_pure ?_);have step:=fG general' λh=>by omega)
   | (rw [if_neg (by rw [size_toArray];omega)];refine wpAny_bind (kind g2 _ k2 cf ?_);have step:=fG κ λ_=>rfl)
  refine wpAny_bind (wpAny_mono step (λr s' h=>?_) λ_ _ x=>x)
  obtain ⟨rfl,p,hp,up,gT,bD⟩:=h
  rw [gT,bD]
  refine wpAny_bind (seqEpoch_at o2 rfl (wpAny_bind (listUpdate_at o2 rfl ?_ (zero_le _) ?_)))
  ·dsimp only
   rw [bne_self_eq_false,if_neg Bool.false_ne_true]
   exact wpAny_pure (fin p _ _ hp up (λb o ne x=>(get?_update_other _ _ (symm ne)).trans (k2 b o ne x)) (get?_update_seq o2 λ_=>(byP vs p).toArray))
  ·show (byP vs p).toArray.size<=_
   rw [size_toArray,zS hp]
   omega
theorem rK {l:Addr}{vs:List Value}{κ:SortKind}{lt:Nat->Nat->Bool}{Q:Value->Shared->Prop} (eZ:vs.length < 64) (O:Ord lt)
  (col:∀ Q':List Value->Shared->Prop,(∀ h' tk,(∀ b o,s.heap.get? b=some o->h'.get? b=some o)->s.heap.objs.size<=h'.objs.size->Q' vs { s with heap:=h',toks:=tk })->wpAny (model prog w) A.in1 (collect (.ref l)) Q' E s)
  (kind:∀ h' tk Q,(∀ b o,s.heap.get? b=some o->h'.get? b=some o)->2<=vs.length->Q κ { s with heap:=h',toks:=tk }->wpAny (model prog w) A.in1.in1 (keyKind' vs.toArray) Q (λ_ _=>False) { s with heap:=h',toks:=tk })
  (less:∀ h' tk i j C,(∀ b o,s.heap.get? b=some o->h'.get? b=some o)->i < vs.length->j < vs.length->C (lt i j) { s with heap:=h',toks:=tk }->wpAny (model prog w) A.in1.in1 (keyLt' κ (vs.getD i Value.none) (vs.getD j Value.none)) C (λ_ _=>False) { s with heap:=h',toks:=tk })
  (fin:∀ p h' tk D c,Pm vs.length p->Up lt p vs.length->(∀ b o,s.heap.get? b=some o->h'.get? b=some o)->s.heap.objs.size<=D->h'.get? D=some (seqObj "list" (byP vs p).toArray c)->Q (.ref D) { s with heap:=h',toks:=tk }) :
  wpAny (model prog w) A (call (.builtin "sorted") [Value.ref l]) Q E s:=by
 have line:64<=sizeLine:=by rw [sizeLine_eq];decide
 refine Calls.call_function_entry kind_sorted plain_sorted entry_sorted (args_sorted1 _) ?_;refine wpAny_bind (m:=checkCount "sorted" 1 1 _) (wpAny_pure (wpAny_bind (col _ λg tk kg above=>wpAny_bind (wpAny_newList ?_ (by omega)))))
 have bc:(g.push (seqObj "list" vs.toArray 0)).get? g.objs.size=some (seqObj "list" vs.toArray 0):=get?_push_size _ rfl
 have old:∀ (h':Heap),KeptBut g.objs.size (g.push (seqObj "list" vs.toArray 0)) h'->∀ b o,s.heap.get? b=some o->h'.get? b=some o:=λh' k b o x =>
  k b o (ne_of_lt (lt_of_lt_of_le (lt_size x) above)) (get?_push_of_some _ (kg b o x))
 refine wpAny_bind (wpAny_holding (wpAny_call_entry PyProof.Rows.slot_list_sort ⟨_,bc,rfl⟩ PyProof.Rows.entry_list_sort ?_ (args_list_sort _)))
 refine Bz (s:={ s with heap:=g.push (seqObj "list" vs.toArray 0),toks:=tk }) (lt:=lt) (κ:=κ) bc eZ O (λh' Q' k two q=>wpAny_mono (kind h' tk Q' (old h' k) two q) (λ_ _ x=>x) λ_ _ x=>x.elim) (λh' i j C k=>less h' tk i j C (old h' k)) λp h' c hp up k bH=>?_
 exact ⟨_,rfl,wpAny_pure ⟨_,rfl,fin p h' tk _ c hp up (old h' k) above bH⟩⟩
end
end DL
namespace DL
open PySem PySem.W PySem.Spec PyProof.Rows L2
noncomputable def rk:D->Nat
 | .non=>0
 | .bl _=>1
 | .int _=>2
 | .str _=>3
 | .tup _=>4
 | .lst _=>5
 | .exc _ _=>6
noncomputable def cI (a b:Int):Ordering:=if a < b then .lt else if b < a then .gt else .eq
mutual
noncomputable def cO:D->D->Ordering
 | .int a,.int b=>cI a b
 | .tup xs,.tup ys=>cOA xs ys
 | a,b=>cI (rk a) (rk b)
noncomputable def cOA:List D->List D->Ordering
 | [],[]=>.eq
 | [],_::_=>.lt
 | _::_,[]=>.gt
 | x::xs,y::ys=>(cO x y).then (cOA xs ys)
end
theorem nY (a b:Int):cI b a=(cI a b).swap:=by
 unfold cI
 by_cases h1:a < b
 ·rw [if_pos h1,if_neg (by omega),if_pos h1];rfl
 ·by_cases h2:b < a
  ·rw [if_pos h2,if_neg h1,if_pos h2];rfl
  ·rw [if_neg h2,if_neg h1,if_neg h1,if_neg h2];rfl
theorem tN {a b:D} (h:rk a≠rk b):cO a b=cI (rk a) (rk b):=by
 cases a<;>cases b<;>first | rfl | (exact absurd rfl h) | (simp [cO];done)
mutual
theorem sj:∀ a b:D,cO b a=(cO a b).swap
 | .int a,b=>by
  cases b<;>simp only [cO]<;>exact nY _ _
 | .tup xs,b=>by
  cases b<;>simp only [cO]<;>first | exact nY _ _ | exact ud _ _
 | .non,b=>by cases b<;>simp only [cO]<;>exact nY _ _
 | .bl _,b=>by cases b<;>simp only [cO]<;>exact nY _ _
 | .str _,b=>by cases b<;>simp only [cO]<;>exact nY _ _
 | .lst _,b=>by cases b<;>simp only [cO]<;>exact nY _ _
 | .exc _ _,b=>by cases b<;>simp only [cO]<;>exact nY _ _
theorem ud:∀ xs ys:List D,cOA ys xs=(cOA xs ys).swap
 | [],[]=>by simp [cOA]
 | [],_::_=>by simp [cOA]
 | _::_,[]=>by simp [cOA]
 | x::xs,y::ys=>by
  rw [cOA,cOA,sj x y,ud xs ys]
  cases cO x y<;>rfl
end
noncomputable def dl (a b:D):Bool:=cO a b == .lt
noncomputable def dlA (xs ys:List D):Bool:=cOA xs ys == .lt
theorem rN (a b:Int):(cI a b == Ordering.lt)=decide (a < b):=by
 unfold cI
 by_cases h1:a < b
 ·rw [if_pos h1];simp [h1]
 ·rw [if_neg h1]
  split<;>simp [h1]
theorem nJ {a b:Int}:dl (.int a) (.int b)=decide (a < b):=by
 unfold dl
 rw [cO,rN]
theorem pB {xs ys:List D}:dl (.tup xs) (.tup ys)=dlA xs ys:=by
 unfold dl dlA
 rw [cO]
theorem qk:dlA [] []=false:=by unfold dlA;simp [cOA]
theorem oE {y:D}{ys:List D}:dlA [] (y::ys)=true:=by unfold dlA;simp [cOA]
theorem pk {y:D}{ys:List D}:dlA (y::ys) []=false:=by unfold dlA;simp [cOA]
theorem pi {x y:D}{xs ys:List D}:dlA (x::xs) (y::ys)=(dl x y||(!dl y x&&dlA xs ys)):=by
 unfold dlA dl
 rw [cOA,sj x y]
 cases cO x y<;>simp [Ordering.then,swap]
theorem uD {a b:D} (h:rk a < rk b):dl a b=true:=by
 unfold dl
 rw [tN (ne_of_lt h),rN]
 simp;omega
theorem Bx {a b:D} (h:rk b < rk a):dl a b=false:=by
 unfold dl
 rw [tN (ne_of_gt h),rN]
 simp;omega
theorem ph {a b:D} (h:rk a=rk b) (h1:rk a≠2) (h2:rk a≠4):dl a b=false:=by
 unfold dl
 cases a<;>cases b<;>first | (simp [rk] at h;done) | (exact absurd rfl h1) | (exact absurd rfl h2) | (simp [cO,cI,rk];done)
mutual
theorem oS:∀ a b c:D,dl b a=false->dl c b=false->dl c a=false:=λa b c h1 h2=>by
 have r1:rk a<=rk b:=Nat.le_of_not_lt λh=>by rw [uD h] at h1;cases h1
 have r2:rk b<=rk c:=Nat.le_of_not_lt λh=>by rw [uD h] at h2;cases h2
 rcases Nat.lt_or_ge (rk a) (rk c) with h | h
 ·exact Bx h
 ·have e1:rk b=rk a:=by omega
  have e2:rk c=rk a:=by omega
  match a,b,c with
  | .int a,.int b,.int c =>
   rw [nJ] at h1 h2 ⊢
   simp at h1 h2 ⊢
   omega
  | .tup xs,.tup ys,.tup zs =>
   rw [pB] at h1 h2 ⊢
   exact t6 xs ys zs h1 h2
  | .non,_,_=>exact ph e2 (by rw [e2];decide) (by rw [e2];decide)
  | .bl _,_,_=>exact ph e2 (by rw [e2];simp [rk]) (by rw [e2];simp [rk])
  | .str _,_,_=>exact ph e2 (by rw [e2];simp [rk]) (by rw [e2];simp [rk])
  | .lst _,_,_=>exact ph e2 (by rw [e2];simp [rk]) (by rw [e2];simp [rk])
  | .exc _ _,_,_=>exact ph e2 (by rw [e2];simp [rk]) (by rw [e2];simp [rk])
termination_by a b c=>sizeOf a+sizeOf b+sizeOf c
decreasing_by all_goals (simp_wf;omega)
theorem t6:∀ xs ys zs:List D,dlA ys xs=false->dlA zs ys=false->dlA zs xs=false
 | [],_,[],_,_=>qk
 | [],_,z::zs,_,_=>pk
 | x::xs,[],_,h1,_=>by rw [oE] at h1;cases h1
 | x::xs,y::ys,[],_,h2=>by rw [oE] at h2;cases h2
 | x::xs,y::ys,z::zs,h1,h2=>by
  simp only [pi,Bool.or_eq_false_iff,Bool.and_eq_false_iff,Bool.not_eq_false'] at h1 h2 ⊢
  obtain ⟨a1,a2⟩:=h1
  obtain ⟨b1,b2⟩:=h2
  refine ⟨oS x y z a1 b1,?_⟩
  cases hx:dl x z with
  | true=>exact .inl rfl
  | false =>
   right
   rcases a2 with a2 | a2
   ·have:=oS y z x b1 hx
    rw [a2] at this;cases this
   ·rcases b2 with b2 | b2
    ·have:=oS z x y hx a1
     rw [b2] at this;cases this
    ·exact t6 xs ys zs a2 b2
termination_by xs ys zs=>sizeOf xs+sizeOf ys+sizeOf zs
decreasing_by all_goals (simp_wf;omega)
end
theorem vH (a b:D) (h:dl a b=true):dl b a=false:=by
 unfold dl at h ⊢
 rw [sj a b]
 cases e:cO a b<;>rw [e] at h<;>first | rfl | (cases h;done)
theorem qS (ds:List D):Ord λi j=>dl (ds.getD i .non) (ds.getD j .non):=⟨λa b h=>vH _ _ h,λa b c h1 h2=>oS _ _ _ h1 h2⟩
mutual
noncomputable def cmB:D->D->Bool
 | .int _,.int _=>true
 | .tup xs,.tup ys=>cmA xs ys
 | _,_=>false
noncomputable def cmA:List D->List D->Bool
 | x::xs,y::ys=>cmB x y&&cmA xs ys
 | _,_=>true
end
mutual
theorem qD:∀ a b:D,cmB a b=true->deq a b=(!dl a b&&!dl b a)
 | .int a,.int b,_=>by
  rw [nJ,nJ]
  by_cases h:a=b
  ·simp [deq,h]
  ·rcases Int.lt_or_gt_of_ne h with h' | h'
   ·simp [deq,h,h']
   ·simp [deq,h,h']
 | .tup xs,.tup ys,h=>by
  rw [cmB] at h
  rw [deq,pB,pB]
  exact ul xs ys h
 | .non,_,h=>by simp [cmB] at h
 | .bl _,_,h=>by simp [cmB] at h
 | .str _,_,h=>by simp [cmB] at h
 | .lst _,_,h=>by simp [cmB] at h
 | .exc _ _,_,h=>by simp [cmB] at h
 | .int _,.exc _ _,h=>by simp [cmB] at h
 | .tup _,.exc _ _,h=>by simp [cmB] at h
 | .int _,.non,h=>by simp [cmB] at h
 | .int _,.bl _,h=>by simp [cmB] at h
 | .int _,.str _,h=>by simp [cmB] at h
 | .int _,.tup _,h=>by simp [cmB] at h
 | .int _,.lst _,h=>by simp [cmB] at h
 | .tup _,.non,h=>by simp [cmB] at h
 | .tup _,.bl _,h=>by simp [cmB] at h
 | .tup _,.str _,h=>by simp [cmB] at h
 | .tup _,.int _,h=>by simp [cmB] at h
 | .tup _,.lst _,h=>by simp [cmB] at h
theorem ul:∀ xs ys:List D,cmA xs ys=true->deqA xs ys=(!dlA xs ys&&!dlA ys xs)
 | [],[],_=>by simp [deqA,qk]
 | [],_::_,_=>by simp [deqA,oE,pk]
 | _::_,[],_=>by simp [deqA,oE,pk]
 | x::xs,y::ys,h=>by
  rw [cmA,and_eq_true] at h
  rw [deqA,qD x y h.1,ul xs ys h.2,pi,pi]
  cases h1:dl x y<;>cases h2:dl y x<;>simp
end
mutual
theorem tE:∀ a b:D,cmB a b=true->deq a b=true->a=b
 | .int a,.int b,_,h=>by simp [deq] at h;rw [h]
 | .tup xs,.tup ys,c,h=>by
  rw [cmB] at c
  rw [deq] at h
  rw [uz xs ys c h]
 | .non,_,h,_=>by simp [cmB] at h
 | .bl _,_,h,_=>by simp [cmB] at h
 | .str _,_,h,_=>by simp [cmB] at h
 | .lst _,_,h,_=>by simp [cmB] at h
 | .exc _ _,_,h,_=>by simp [cmB] at h
 | .int _,.exc _ _,h,_=>by simp [cmB] at h
 | .tup _,.exc _ _,h,_=>by simp [cmB] at h
 | .int _,.non,h,_=>by simp [cmB] at h
 | .int _,.bl _,h,_=>by simp [cmB] at h
 | .int _,.str _,h,_=>by simp [cmB] at h
 | .int _,.tup _,h,_=>by simp [cmB] at h
 | .int _,.lst _,h,_=>by simp [cmB] at h
 | .tup _,.non,h,_=>by simp [cmB] at h
 | .tup _,.bl _,h,_=>by simp [cmB] at h
 | .tup _,.str _,h,_=>by simp [cmB] at h
 | .tup _,.int _,h,_=>by simp [cmB] at h
 | .tup _,.lst _,h,_=>by simp [cmB] at h
theorem uz:∀ xs ys:List D,cmA xs ys=true->deqA xs ys=true->xs=ys
 | [],[],_,_=>rfl
 | [],_::_,_,h=>by simp [deqA] at h
 | _::_,[],_,h=>by simp [deqA] at h
 | x::xs,y::ys,c,h=>by
  rw [cmA,and_eq_true] at c
  rw [deqA,and_eq_true] at h
  rw [tE x y c.1 h.1,uz xs ys c.2 h.2]
end
open PySem.SeqAt in
theorem t9 (e lt:Nat->Bool) (d:Bool) (f:Nat->Nat):∀ l:List Nat,ltFrom e lt d (l.map f)=ltFrom (λi=>e (f i)) (λi=>lt (f i)) d l
 | []=>rfl
 | i::l=>by rw [map_cons,ltFrom,ltFrom,t9 e lt d f l]
open PySem.SeqAt in
theorem uQ:∀ xs ys:List D,cmA xs ys=true->ltFrom (λj=>deq (xs.getD j .non) (ys.getD j .non)) (λj=>dl (xs.getD j .non) (ys.getD j .non)) (decide (xs.length < ys.length)) (range (min xs.length ys.length))=dlA xs ys
 | [],[],_=>by simp [ltFrom,qk]
 | [],_::_,_=>by simp [ltFrom,oE]
 | _::_,[],_=>by simp [ltFrom,pk]
 | x::xs,y::ys,c=>by
  rw [cmA,and_eq_true] at c
  have ih:=uQ xs ys c.2
  rw [length_cons,length_cons,Nat.succ_min_succ,List.range_succ_eq_map,ltFrom,t9,pi]
  have e:ltFrom (λi=>deq ((x::xs).getD i.succ .non) ((y::ys).getD i.succ .non)) (λi=>dl ((x::xs).getD i.succ .non) ((y::ys).getD i.succ .non)) (decide (xs.length+1 < ys.length+1)) (range (min xs.length ys.length))=dlA xs ys:=by
   rw [← ih]
   congr 1
   simp
  rw [e]
  show (if deq x y=true then dlA xs ys else dl x y)=_
  rw [qD x y c.1]
  cases h1:dl x y<;>cases h2:dl y x<;>simp
theorem tP:∀ (xs ys:List D),cmA xs ys=true->∀ j,j < xs.length->j < ys.length->cmB (xs.getD j .non) (ys.getD j .non)=true
 | [],_,_,j,h,_=>by simp at h
 | _::_,[],_,j,_,h=>by simp at h
 | x::xs,y::ys,c,j,h1,h2=>by
  rw [cmA,and_eq_true] at c
  cases j with
  | zero=>exact c.1
  | succ j=>exact tP xs ys c.2 j (by simpa using h1) (by simpa using h2)
section
variable {X:Cx}{aa:List (Addr×Obj)}{U:L2.St}{H:Hp}{s:Shared}
open PySem.SeqAt in
theorem zM (I:Inv X aa U H s):∀ (n:Nat) (A:Around),A.units+n < cLine->n < 900->∀ (a b:D) (x y:V) (u v:Value),(dep a<=n/\dep b<=n)->cmB a b=true->Is X.K H a x->Is X.K H b y->RelV x u->RelV y v->RcLtAt A s u v (dl a b):=by
 intro n
 induction n with
 | zero =>
  intro A hu hn a b x y u v hd c ha hb ru rv
  cases a<;>cases b<;>simp [cmB] at c
  ·rename_i i j
   rw [mn ha] at ru
   rw [mn hb] at rv
   obtain ⟨t1,rfl⟩:=ru
   obtain ⟨t2,rfl⟩:=rv
   rw [nJ]
   exact RcLtAt.int_int _ _ _ _
  ·rw [dep] at hd
   omega
 | succ n ih =>
  intro A hu hn a b x y u v hd c ha hb ru rv
  cases a<;>cases b<;>simp [cmB] at c
  ·rename_i i j
   rw [mn ha] at ru
   rw [mn hb] at rv
   obtain ⟨t1,rfl⟩:=ru
   obtain ⟨t2,rfl⟩:=rv
   rw [nJ]
   exact RcLtAt.int_int _ _ _ _
  ·rename_i ds es
   have cS:A.in1.units+n < cLine:=by show A.units+1+n < cLine;omega
   obtain ⟨p,xs,rfl,h1,h2⟩:=mv ha
   obtain ⟨q,ys,rfl,h3,h4⟩:=mv hb
   cases ru;cases rv
   obtain ⟨ae,r1,t1,_⟩:=I.tuple h1
   obtain ⟨aS,r2,t2,_⟩:=I.tuple h3
   have l1:ae.toArray.size=ds.length:=by rw [size_toArray,← r1.length,h2.length]
   have l2:aS.toArray.size=es.length:=by rw [size_toArray,← r2.length,h4.length]
   have two:∀ j (g1:j < ae.toArray.size) (g2:j < aS.toArray.size),EqAt A.in1 s ae.toArray[j] aS.toArray[j] (deq (ds.getD j .non) (es.getD j .non))/\(deq (ds.getD j .non) (es.getD j .non)=false->RcLtAt A.in1 s ae.toArray[j] aS.toArray[j] (dl (ds.getD j .non) (es.getD j .non))):=λj g1 g2=>by
    obtain ⟨v1,q1,q2⟩:=h2.getU r1 g1
    obtain ⟨v2,q3,q4⟩:=h4.getU r2 g2
    have m1:ds.getD j .non∈ds:=by
     rw [getD_eq_getElem?_getD,getElem?_eq_getElem (by omega)]
     exact getElem_mem _
    have m2:es.getD j .non∈es:=by
     rw [getD_eq_getElem?_getD,getElem?_eq_getElem (by omega)]
     exact getElem_mem _
    have k1:=mT m1
    have k2:=mT m2
    rw [dep,dep] at hd
    exact ⟨(pr I n A.in1 cS (by omega) _ _ _ _ _ _ (by omega) q2 q4 q1 q3).2.1,λ_=>ih A.in1 cS (by omega) _ _ _ _ _ _ (by omega) (tP ds es c j (by omega) (by omega)) q2 q4 q1 q3⟩
   have R1:=RcLtAt.tuples (A:=A) t1 t2 (by omega) two
   rw [l1,l2,uQ ds es c] at R1
   rw [pB]
   exact R1
end
end DL
namespace DL
open PySem PySem.W PySem.Spec PyProof.Rows L2
noncomputable def leD (a b:D):Bool:=!dl b a
noncomputable def sortD (ds:List D):List D:=ds.mergeSort leD
theorem xY (a b c:D) (h1:leD a b=true) (h2:leD b c=true):leD a c=true:=by
 unfold leD at *
 simp only [not_eq_true'] at *
 exact oS a b c h1 h2
theorem zl (a b:D):(leD a b||leD b a)=true:=by
 unfold leD
 cases h:dl b a with
 | false=>rfl
 | true=>rw [vH b a h];rfl
theorem BS (ds:List D):(sortD ds).Perm ds:=List.mergeSort_perm ds leD
theorem xO (ds:List D):(sortD ds).Pairwise λa b=>leD a b=true:=List.pairwise_mergeSort xY zl ds
theorem vk:∀ (l m:List D),l.Perm m->(l.Pairwise λa b=>leD a b=true)->(m.Pairwise λa b=>leD a b=true)->(∀ a∈l,∀ b∈l,leD a b=true->leD b a=true->a=b)->l=m
 | [],m,p,_,_,_=>by rw [List.nil_perm.mp p]
 | a::l,[],p,_,_,_=>by have:=p.length_eq;simp at this
 | a::l,b::m,p,h1,h2,an=>by
  have e:a=b:=by
   have ia:a∈b::m:=p.mem_iff.mp mem_cons_self
   have ib:b∈a::l:=p.mem_iff.mpr mem_cons_self
   rcases mem_cons.mp ia with h | h
   ·exact h
   ·rcases mem_cons.mp ib with h' | h'
    ·exact h'.symm
    ·exact an a mem_cons_self b ib ((pairwise_cons.mp h1).1 b h') ((pairwise_cons.mp h2).1 a h)
  subst e
  rw [vk l m ((List.perm_cons a).mp p) (pairwise_cons.mp h1).2 (pairwise_cons.mp h2).2 λx hx y hy=>an x (mem_cons_of_mem _ hx) y (mem_cons_of_mem _ hy)]
noncomputable def permD (p:Array Nat) (ds:List D):List D:=p.toList.map λi=>ds.getD i .non
noncomputable def permV (p:Array Nat) (zs:List V):List V:=p.toList.map λi=>zs.getD i .non
noncomputable def cmAll (ds:List D):Bool:=ds.all λa=>ds.all λb=>cmB a b
theorem yT {ds:List D}{p:Array Nat} (hp:Pm ds.length p) (up:Up (λi j=>dl (ds.getD i .non) (ds.getD j .non)) p ds.length) (cm:cmAll ds=true):permD p ds=sortD ds:=by
 have pm:(permD p ds).Perm ds:=by
  have h1:p.toList.Perm (range ds.length):=by
   have:=Array.perm_iff_toList_perm.mp hp
   simpa using this
  have h2:=h1.map λi=>ds.getD i .non
  have h3:((range ds.length).map λi=>ds.getD i .non)=ds:=by
   refine List.ext_getElem (by simp) λi h1 h2=>?_
   simp [h2]
  rw [h3] at h2
  exact h2
 have kf:∀ a∈permD p ds,∀ b∈permD p ds,cmB a b=true:=λa ha b hb=>by
  have:=all_eq_true.mp cm a (pm.mem_iff.mp ha)
  exact all_eq_true.mp this b (pm.mem_iff.mp hb)
 refine vk _ _ (pm.trans (BS ds).symm) ?_ (xO ds) λa ha b hb h1 h2=>?_
 ·rw [List.pairwise_iff_getElem]
  intro i j hi hj bY
  unfold permD at hi hj ⊢
  rw [length_map,length_toList,hp.size] at hi hj
  have:=up i j bY hj
  simp only [List.getElem_map,Array.getElem_toList]
  unfold gt at this
  rw [getD,dif_pos (by rw [hp.size];exact hj),getD,dif_pos (by rw [hp.size];exact hi)] at this
  unfold leD
  rw [not_eq_true']
  exact this
 ·have c:=kf a ha b hb
  refine tE a b c ?_
  rw [qD a b c]
  unfold leD at h1 h2
  rw [h1,h2]
  rfl
section
variable {X:Cx}{aa:List (Addr×Obj)}{U:L2.St}{H:Hp}{s:Shared}{A:Around}
noncomputable def fstI:D->Bool
 | .tup (.int _::_)=>true
 | _=>false
noncomputable def fstT:D->Bool
 | .tup (.tup _::_)=>true
 | _=>false
noncomputable def isInt:D->Bool
 | .int _=>true
 | _=>false
theorem ua (I:Inv X aa U H s){prog:Program}{w:World}{n:Nat}{b fin:Bool}{Q:Bool->Shared->Prop} (hu:A.units+n < cLine) (hn:n < 900):∀ (ds es:List D) (xs ys:List V) (us vs:List Value) (i:Nat),IsA X.K H ds xs->IsA X.K H es ys->Vals xs us->Vals ys vs →
  (depA ds<=n/\depA es<=n)->cmA ds es=true->fin=decide (ds.length < es.length)->(b=true->i=0->∀ d e r r',ds=d::r->es=e::r'->isInt d=true/\isInt e=true)->Q (dlA ds es) s->KatLex prog w A b fin Q (us.zip vs) i s
 | [],es,xs,ys,us,vs,i,h1,h2,h3,h4,hd,c,hf,fl,q=>by
  have:=h1.nil_inv;subst this
  cases h3
  rw [List.zip_nil_left]
  refine kat_nil ?_
  rw [hf]
  cases es with
  | nil=>rw [qk] at q;exact q
  | cons e es=>rw [oE] at q;simpa using q
 | d::ds,[],xs,ys,us,vs,i,h1,h2,h3,h4,hd,c,hf,fl,q=>by
  have:=h2.nil_inv;subst this
  cases h4
  rw [List.zip_nil_right]
  refine kat_nil ?_
  rw [hf]
  rw [pk] at q
  simpa using q
 | d::ds,e::es,xs,ys,us,vs,i,h1,h2,h3,h4,hd,c,hf,fl,q=>by
  obtain ⟨x,xr,rfl,a1,a2⟩:=h1.cons_inv
  obtain ⟨y,yr,rfl,b1,b2⟩:=h2.cons_inv
  cases h3 with
  | cons r1 r2 =>
   cases h4 with
   | cons s1 s2 =>
    rename_i u kh v gU
    rw [depA,depA] at hd
    rw [cmA,and_eq_true] at c
    rw [pi] at q
    have eq:=(pr I n A hu hn d e x y u v (by omega) a1 b1 r1 s1).2.1
    have lt:=zM I n A hu hn d e x y u v (by omega) c.1 a1 b1 r1 s1
    have ed:=qD d e c.1
    rw [List.zip_cons_cons]
    refine kat_cons (eq prog w _ _ (kat_go (λh=>kat_yes ?_) λh=>kat_no ?_))
    ·refine ua I hu hn ds es xr yr kh gU (i+1) a2 b2 r2 s2 (by omega) c.2 (by rw [hf];simp) (λ_ z=>by omega) ?_
     rw [h] at ed
     have ed:=ed.symm
     simp only [and_eq_true,not_eq_true'] at ed
     rw [ed.1,ed.2] at q
     simpa using q
    ·have q':Q (dl d e) s:=by
      rw [h] at ed
      cases h1:dl d e with
      | true=>rw [h1] at q;simpa using q
      | false =>
       rw [h1] at ed q
       cases h2:dl e d with
       | true=>rw [h2] at q;simpa using q
       | false=>rw [h2] at ed;cases ed
     by_cases z:b=true/\i=0
     ·obtain ⟨zb,zi⟩:=z
      obtain ⟨f1,f2⟩:=fl zb zi d e ds es rfl rfl
      subst zb;subst zi
      cases d<;>simp [isInt] at f1
      cases e<;>simp [isInt] at f2
      rw [mn a1] at r1
      rw [mn b1] at s1
      obtain ⟨t1,rfl⟩:=r1
      obtain ⟨t2,rfl⟩:=s1
      show wpAny _ _ (oneLt' true _ _) _ _ _
      rw [← keyLt'_oneType]
      rw [nJ] at q'
      exact kat_lt_int q'
     ·have:(b&&i == 0)=false:=by
       cases b
       ·rfl
       ·simp at z ⊢
        exact z
      rw [this]
      exact kat_one _ _ (lt prog w _ _ q')
theorem at_k {ds:List D}{zs:List V}{vs:List Value} (h:IsA X.K H ds zs) (r:Vals zs vs){k:Nat} (hk:k < vs.length):∃ x,Is X.K H (ds.getD k .non) x/\RelV x (vs.getD k .none)/\ds.getD k .non∈ds/\zs[k]?=some x:=by
 have l1:=h.length
 have l2:=r.length
 have gW:k < ds.length:=by omega
 obtain ⟨x,e1,e2⟩:=h.get (getElem?_eq_getElem gW)
 obtain ⟨u,e3,e4⟩:=r.get e1
 refine ⟨x,?_,?_,?_,e1⟩
 ·rw [getD_eq_getElem?_getD,getElem?_eq_getElem gW];exact e2
 ·rw [getD_eq_getElem?_getD,e3];exact e4
 ·rw [getD_eq_getElem?_getD,getElem?_eq_getElem gW];exact getElem_mem _
theorem qT (I:Inv X aa U H s) (prog:Program) (w:World) (P:D->Bool) (T:Value) (hP:∀ d,P d=true->∃ f r,d=.tup (f::r)/\∀ x u,Is X.K H f x->RelV x u->Looks (model prog w) s.heap (typeOf u) T) :
  ∀ (ds:List D) (zs:List V) (vs:List Value),IsA X.K H ds zs->Vals zs vs->ds.all P=true->∃ fs,KatTups s.heap vs fs/\fs.length=vs.length/\∀ v∈fs,Looks (model prog w) s.heap (typeOf v) T
 | [],zs,vs,h,r,_=>by
  have:=h.nil_inv;subst this
  cases r
  exact ⟨[],KatTups.nil,rfl,λv hv=>nomatch hv⟩
 | d::ds,zs,vs,h,r,ok=>by
  obtain ⟨x,zr,rfl,h1,h2⟩:=h.cons_inv
  rw [all_cons,and_eq_true] at ok
  cases r with
  | cons r1 r2 =>
   obtain ⟨fs,k1,k2,k3⟩:=qT I prog w P T hP ds zr _ h2 r2 ok.2
   obtain ⟨f,aw,rfl,look⟩:=hP d ok.1
   obtain ⟨a,ys,rfl,g1,g2⟩:=mv h1
   cases r1
   obtain ⟨ae,q1,q2,_⟩:=I.tuple g1
   obtain ⟨y,yr,rfl,g3,g4⟩:=g2.cons_inv
   cases q1 with
   | cons q3 q4 =>
    obtain ⟨o,e1,e2,n,e3⟩:=q2
    refine ⟨_::fs,KatTups.cons e1 e2 e3 rfl k1,by simp [k2],λv hv=>?_⟩
    rcases mem_cons.mp hv with rfl | hv
    ·exact look y _ g3 q3
    ·exact k3 v hv
def SortOk (ds:List D):Prop:=ds.length < 64/\cmAll ds=true/\depA ds<=50/\(ds.all isInt=true\/ds.all fstI=true\/ds.all fstT=true)
theorem zR (hu:X.A.units+100 < cLine){l:Addr}{ds:List D}{zs:List V}{ae:List Value}{Q:VK} (I:Inv X aa U H s) (ha:IsA X.K H ds zs) (rv:Vals zs ae) (ok:SortOk ds)
  (col:∀ Q':List Value->Shared->Prop,(∀ h' tk,(∀ b o,s.heap.get? b=some o->h'.get? b=some o)->s.heap.objs.size<=h'.objs.size->Q' ae { s with heap:=h',toks:=tk })->wpAny (model X.prog X.w) X.A.in1 (collect (.ref l)) Q' X.xe s)
  (k:∀ l q,Pm ds.length q->permD q ds=sortD ds->H l=none->Q (.ref l) (upd H l (.lst (permV q zs)))):wpAny (model X.prog X.w) X.A (call (.builtin "sorted") [.ref l]) (EP X aa U Q) X.xe s:=by
 obtain ⟨eZ,cm,dp,kd⟩:=ok
 have l1:=ha.length
 have l2:=rv.length
 have n1:ae.length=ds.length:=by omega
 have i8:∀ i j,i < ae.length->j < ae.length->cmB (ds.getD i .non) (ds.getD j .non)=true:=λi j hi hj=>by
  obtain ⟨_,_,_,mi,_⟩:=at_k ha rv hi
  obtain ⟨_,_,_,mj,_⟩:=at_k ha rv hj
  exact all_eq_true.mp (all_eq_true.mp cm _ mi) _ mj
 have bi:∀ q h' tk D c,Pm ae.length q->Up (λi j=>dl (ds.getD i .non) (ds.getD j .non)) q ae.length->(∀ b o,s.heap.get? b=some o->h'.get? b=some o)->s.heap.objs.size<=D->h'.get? D=some (seqObj "list" (byP ae q).toArray c)->EP X aa U Q (.ref D) { s with heap:=h',toks:=tk }:=λq h' tk D c hp up keep above bH=>by
  rw [n1] at hp up
  have hv:Vals (permV q zs) (byP ae q):=by
   refine qR (by simp [permV,byP]) λi x u e1 e2=>?_
   obtain ⟨j,f1,rfl⟩:=getMap e1
   obtain ⟨j',f2,rfl⟩:=getMap e2
   rw [f1] at f2
   cases f2
   have hj:j < ds.length:=by
    have h1:j∈q.toList:=mem_of_getElem? f1
    have h2:=(Array.perm_iff_toList_perm.mp hp).mem_iff.mp h1
    simpa using h2
   obtain ⟨x,_,e4,_,e5⟩:=at_k ha rv (k:=j) (by omega)
   rw [getD_eq_getElem?_getD,e5]
   exact e4
  refine ⟨.ref D,_,I.laid (t':=tk) keep above (o:=.lst (permV q zs)) ⟨?_,byP ae q,c,hv,bH⟩,rfl,k D q hp (yT hp up cm) (I.hok.fresh above)⟩
  show (permV q zs).length<=sizeLine
  rw [permV,length_map,length_toList,hp.size,sizeLine_eq]
  omega
 have ei:∀ (b:Bool) (P:D->Bool),(∀ d,P d=true->∃ f r,d=.tup (f::r)/\(b=true->isInt f=true))->ds.all P=true->∀ h' tk i j C,(∀ b o,s.heap.get? b=some o->h'.get? b=some o)->i < ae.length->j < ae.length->C (dl (ds.getD i .non) (ds.getD j .non)) { s with heap:=h',toks:=tk } →
   wpAny (model X.prog X.w) X.A.in1.in1 (keyLt' (tuples' b) (ae.getD i Value.none) (ae.getD j Value.none)) C (λ_ _=>False) { s with heap:=h',toks:=tk }:=λb P hP all h' tk i j C keep hi hj hc=>by
  have I':Inv X aa U H { s with heap:=h',toks:=tk }:=I.kept (t':=tk) keep
  obtain ⟨x,a1,a2,a3,_⟩:=at_k ha rv hi
  obtain ⟨y,b1,b2,b3,_⟩:=at_k ha rv hj
  have cc:=i8 i j hi hj
  have dq:=mT a3
  have i9:=mT b3
  obtain ⟨f1,r1,e1,g1⟩:=hP _ (all_eq_true.mp all _ a3)
  obtain ⟨f2,r2,e2,g2⟩:=hP _ (all_eq_true.mp all _ b3)
  rw [e1] at a1 cc hc dq
  rw [e2] at b1 cc hc i9
  obtain ⟨pa,xs,rfl,x1,x2⟩:=mv a1
  obtain ⟨pb,ys,rfl,y1,y2⟩:=mv b1
  generalize ae.getD i Value.none=ui at a2
  generalize ae.getD j Value.none=uj at b2
  cases a2;cases b2
  obtain ⟨us,q1,q2,_⟩:=I'.tuple x1
  obtain ⟨vs,q3,q4,_⟩:=I'.tuple y1
  obtain ⟨oa,m1,m2,na,m3⟩:=q2
  obtain ⟨ob,m4,m5,nb,m6⟩:=q4
  rw [pB] at hc
  rw [cmB] at cc
  rw [dep] at dq i9
  refine kat_lt m1 m3 m4 m6 (ua I' (n:=50) (by show X.A.units+1+1+50 < cLine;omega) (by decide) _ _ xs ys _ _ 0 x2 y2 q1 q3 (by omega) cc ?_ (λzb _ d e rr lK z1 z2=>?_) hc)
  ·have:=x2.length;have:=y2.length;have:=q1.length;have:=q3.length
   simp only [size_toArray]
   congr 1
   apply propext
   constructor<;>intro _<;>omega
  ·cases z1;cases z2
   exact ⟨g1 zb,g2 zb⟩
 rcases kd with kd | kd | kd
 ·-- aY numbers
  have gX:∀ k,k < ae.length->∃ i t,ae.getD k Value.none=.int i t/\ds.getD k .non=.int i:=λk hk=>by
   obtain ⟨x,a1,a2,a3,_⟩:=at_k ha rv hk
   have:=all_eq_true.mp kd _ a3
   cases e:ds.getD k .non<;>rw [e] at this a1<;>simp [isInt] at this
   rw [mn a1] at a2
   obtain ⟨t,a2⟩:=a2
   exact ⟨_,t,a2,rfl⟩
  refine rK (κ:=oneType') (lt:=λi j=>dl (ds.getD i .non) (ds.getD j .non)) (by omega) (qS ds) col (λh' tk Q' keep two q=>?_) (λh' tk i j C keep hi hj hc=>?_) bi
  ·refine kas_kind (T:=.type "int") two (λv hv=>?_) (by decide) (by decide) q
   obtain ⟨k,hk,rfl⟩:=List.getElem_of_mem hv
   obtain ⟨i,t,e,_⟩:=gX k hk
   rw [getD_eq_getElem?_getD,getElem?_eq_getElem hk] at e
   change ae[k]=_ at e
   rw [e]
   exact Looks.now
  ·obtain ⟨a,t1,e1,f1⟩:=gX i hi
   obtain ⟨b,t2,e2,f2⟩:=gX j hj
   rw [f1,f2,nJ] at hc
   rw [e1,e2]
   exact kat_lt_int hc
 ·-- tuples that begin with a aY number
  refine rK (κ:=tuples' true) (lt:=λi j=>dl (ds.getD i .non) (ds.getD j .non)) (by omega) (qS ds) col (λh' tk Q' keep two q=>?_) (λh' tk i j C keep hi hj hc=>ei true fstI (λd hd=>?_) kd h' tk i j C keep hi hj hc) bi
  ·have I':Inv X aa U H { s with heap:=h',toks:=tk }:=I.kept (t':=tk) keep
   obtain ⟨fs,k1,k2,k3⟩:=qT I' X.prog X.w fstI (.type "int") (λd hd=>by
    unfold fstI at hd
    split at hd
    ·refine ⟨_,_,rfl,λx u hx hr=>?_⟩
     rw [mn hx] at hr
     obtain ⟨t,rfl⟩:=hr
     exact Looks.now
    ·cases hd) ds zs ae ha rv kd
   exact kat_kind k1 (by omega) k3 (by decide) q
  ·unfold fstI at hd
   split at hd
   ·exact ⟨_,_,rfl,λ_=>rfl⟩
   ·cases hd
 ·-- tuples that begin with a tuple
  refine rK (κ:=tuples' false) (lt:=λi j=>dl (ds.getD i .non) (ds.getD j .non)) (by omega) (qS ds) col (λh' tk Q' keep two q=>?_) (λh' tk i j C keep hi hj hc=>ei false fstT (λd hd=>?_) kd h' tk i j C keep hi hj hc) bi
  ·have I':Inv X aa U H { s with heap:=h',toks:=tk }:=I.kept (t':=tk) keep
   obtain ⟨fs,k1,k2,k3⟩:=qT I' X.prog X.w fstT (.type "tuple") (λd hd=>by
    unfold fstT at hd
    split at hd
    ·refine ⟨_,_,rfl,λx u hx hr=>?_⟩
     obtain ⟨a,ys,rfl,g1,g2⟩:=mv hx
     cases hr
     obtain ⟨aS,q1,q2,_⟩:=I'.tuple g1
     obtain ⟨o,e1,e2,n,e3⟩:=q2
     have look:Looks (model X.prog X.w) h' (typeOf (.ref a)) o.cls:=(Looks.ld e1).andThen .now
     rw [e2] at look
     exact look
    ·cases hd) ds zs ae ha rv kd
   exact kat_kind k1 (by omega) k3 (by decide) q
  ·unfold fstT at hd
   split at hd
   ·exact ⟨_,_,rfl,λh=>by cases h⟩
   ·cases hd
theorem wj (hu:X.A.units+100 < cLine):CallR X (.builtin "sorted") (λxs H Q=>∃ (p:Addr) (zs:List V) (ds:List D),xs=[.ref p]/\SqL X.K H p zs/\IsA X.K H ds zs/\SortOk ds/\∀ l q,Pm ds.length q->permD q ds=sortD ds->H l=none->Q (.ref l) (upd H l (.lst (permV q zs)))):=by
 intro aa s U H xs us Q I r h
 obtain ⟨p,zs,ds,rfl,hq,ha,ok,k⟩:=h
 obtain ⟨u,rfl,ru⟩:=vals1 r
 cases ru
 obtain ⟨ae,rv,t,hz⟩:=I.list hq
 have l1:=ha.length
 have l2:=rv.length
 have line:64<=sizeLine:=by rw [sizeLine_eq];decide
 refine zR hu I ha rv ok (λQ' q=>collect_list t.isList (q _ s.toks (λb o x=>?_) ?_) (by have:=ok.1;omega)) k
 ·exact (get?_update_other _ _ (symm (ne_of_lt (lt_size x)))).trans (get?_push_of_some _ x)
 ·rw [Heap.size_update,size_push']
  exact Nat.le_succ _
end
section
variable {X:Cx}{B:BB}{e:Expr}{pos:Pos}{kr:Nat}
noncomputable def sortF (ds:List D):Option (List D):=match ds with
 | [.lst xs]=>if xs.length < 64/\cmAll xs=true/\depA xs<=50/\(xs.all isInt=true\/xs.all fstI=true\/xs.all fstT=true) then some (sortD xs) else none
 | _=>none
theorem IsA.perm {K:PySem.W.Frag}{I:Hp}{ds:List D}{zs:List V}{q:Array Nat} (h:IsA K I ds zs) (hp:Pm ds.length q):IsA K I (permD q ds) (permV q zs):=by
 have bK:∀ j∈q.toList,j < ds.length:=λj hj=>by
  have:=(Array.perm_iff_toList_perm.mp hp).mem_iff.mp hj
  simpa using this
 unfold permD permV
 clear hp
 generalize q.toList=js at bK
 induction js with
 | nil=>exact IsA.nil
 | cons j js ih =>
  rw [map_cons,map_cons]
  refine IsA.cons ?_ (ih λi hi=>bK i (mem_cons_of_mem _ hi))
  have hj:=bK j mem_cons_self
  obtain ⟨x,e1,e2⟩:=h.get (getElem?_eq_getElem hj)
  rw [getD_eq_getElem?_getD,getD_eq_getElem?_getD,e1,getElem?_eq_getElem hj]
  exact e2
theorem qa {p:Pos}{t:M (List D)} (hr:Room kr X.A) (hg:Gl X "sorted") (hm:X.mg "sorted"=none) (ha:AD X B [e] t) (he:starEach [e] X.env=(false,eval e X.env)::starEach [] X.env:=by rfl) (az:(backTo pos (starEach [] X.env)).any (·.1)=false:=by rfl) :
  EO X B (.Call (.Name "sorted" p) [e] [] pos) (fn1 sortF t):=BD (wj (hu100 hr)) (λds d e B G I H U Γ xs Q r h k=>by
 unfold sortF at e
 split at e
 ·obtain ⟨ok,rfl⟩:=my e
  obtain ⟨x,rfl,hx⟩:=h.one
  obtain ⟨q,zs,rfl,h3,h4⟩:=mx hx
  refine ⟨q,zs,_,rfl,(Same.rdK r.iH h3).sq,h4.mono r.iH,ok,λl q' hp es hl=>?_⟩
  refine k.new r hl ?_
  rw [← es]
  exact h4.perm hp
 ·cases e) hg hm boot_sorted ha (by decide) (by decide) he az
end
end DL
namespace DL
open PySem
end DL
namespace DL
open PySem PySem.W PySem.Spec PyProof.Rows L2
section
variable {X:Cx}{B:BB}{pos:Pos}{c e:Expr}{st:Stmt}{ss sa sb body:List Stmt}{g h:M Fl}{tc:M Bool}{ga:M D}
@[irreducible] def SI (X:Cx) (B:BB) (st:Stmt) (g:M Fl):Prop:=SD X B st g
@[irreducible] def SIs (X:Cx) (B:BB) (ss:List Stmt) (g:M Fl):Prop:=SDs X B ss g
theorem md (k:SD X B st g):SI X B st g:=by unfold SI;exact k
theorem mD (k:SIs X B ss g):SDs X B ss g:=by unfold SIs at k;exact k
theorem mO:SIs X B [] (ret .nx):=by unfold SIs;exact xk
theorem mh (k:SI X B st g):SIs X B [st] g:=by unfold SI at k;unfold SIs;exact vP k
theorem mf (k:SI X B st g) (t:SIs X B ss h):SIs X B (st::ss) (seqS g h):=by unfold SI at k;unfold SIs at t ⊢;exact zw k t
theorem mI (hc:TD X B c tc) (ha:SIs X B sa g) (hb:SIs X B sb h):SI X B (.If c sa sb pos) (ifS tc g h):=by unfold SIs at ha hb;unfold SI;exact B4 hc ha hb
theorem nc {m:Nat}{iter tg:Expr}{it:M (List D)}{ay:D->M Unit} (hp:PassesOwn (model X.prog X.w) X.A X.env X.xe) (hc:X.calm=true) (hi:ITD X B tg iter it) (hg:GD X B m tg ay) (hb:SIs X B body g)
  (hs:∀ x,foldedSetIterable iter X.env x=pure x:=by intro _;rfl):SI X B (.For tg iter body [] pos) (forS it ay g):=by unfold SIs at hb;unfold SI;exact wv hp hc hi hg hb hs
theorem mB {i:Nat}{x:Str}{aO:Pos} (hN:X.N.Nodup) (he:ED X B e ga) (hi:X.N[i]?=some x:=by rfl) (hx:locB X.env.scope x=true:=by rfl) (hs:swapsWith e (some (.Name x aO)) pos.line X.env=pure false:=by rfl)
  (hf:fnB X x=true:=by rfl):SI X B (.Assign [.Name x aO] e pos) (setV i ga):=by unfold SI;exact uL hN he hi hx hs hf
end
section
variable {X:Cx}{B:BB}{e a st:Expr}{es:List Expr}{pos:Pos}{t:M (List D)}
def rInsert:V->List V->Hp->VK->Prop:=λx vs H Q=>∃ (l:Addr) (xs:List V) (i:Nat) (y:V),x=.ref l/\vs=[.int i,y]/\H l=some (.lst xs)/\i<=xs.length/\xs.length < sizeLine/\Q .non (upd H l (.lst (xs.take i++y::xs.drop i)))
theorem wJ:MtM X "list.insert" rInsert:=by
 intro aa s U H x vs v us Q I rx rv h
 obtain ⟨l,xs,i,y,rfl,rfl,hH,hi,hz,q⟩:=h
 cases rx
 obtain ⟨u1,u2,rfl,⟨tk,rfl⟩,ru⟩:=rv.two
 obtain ⟨z,ae,n,r,hl,e⟩:=I.lstM hH
 have lL:sizeLine < 9223372036854775808:=by rw [sizeLine_eq];decide
 have cf:ae.toArray.size<=sizeLine:=by rw [size_toArray];omega
 obtain ⟨j,hj⟩:∃ j:Int,j=i:=⟨_,rfl⟩
 rw [← hj]
 have fits:¬ (!Builtin.List.listFitsIndex j)=true:=by
  have:listFitsIndex j=true:=by
   simp [listFitsIndex]
   omega
  rw [this];simp
 have m:=AutoSeq1.list_insert_list_int_val_1 l ae.toArray n j tk u2 fits cf
 refine call_meets F.slot_list_insert ⟨_,e,rfl⟩ F.entry_list_insert (F.args_list_insert_3 _ _ _) m ⟨e,?_⟩
 refine ⟨.non,_,I.lset (its':=ae.take i++u2::ae.drop i) hH e ?_ (Vals.append (r.take _) (.cons ru (r.drop _))) ?_,rfl,q⟩
 ·have h0:¬ (j < 0):=by omega
  have hm:min j.toNat ae.toArray.size=i:=by rw [size_toArray];omega
  dsimp only
  rw [if_neg h0,hm]
  apply Array.toList_inj.mp
  simp [List.extract_eq_take_drop,List.drop_take]
  exact List.take_of_length_le (by simp)
 ·rw [length_append,length_cons,length_take,length_drop]
  omega
noncomputable def insF (as:List D) (ds:List D):Option (List D):=match as with
 | [.int n,d]=>if 0<=n/\n<=ds.length/\ds.length < lim then some (ds.take n.toNat++d::ds.drop n.toNat) else none
 | _=>none
noncomputable def insS (i:Nat) (t:M (List D)):M Fl:=mutS i (bnd t λds=>bnd (wr i (insF ds)) λ_=>ret .nx)
theorem yM {i:Nat}{x:Str}{p1 aA aj:Pos} (hv:PE X (.Name x p1) (tVar i)) (ha:AD X B (e::es) t) (hs:swapsWith (.Call (.Attribute (.Name x p1) "insert" aA) (e::es) [] aj) none pos.line X.env=pure false:=by rfl)
  (cL:starEach (e::es) X.env=(false,eval e X.env)::starEach es X.env:=by rfl)
  (bp:attributeBase (.Name x p1) "insert" X.env (eval (.Name x p1) X.env)=eval (.Name x p1) X.env:=by rfl)
  (bQ:((backTo aj (starEach (e::es) X.env)).all (λx=>!x.1)&&(backToKw aj (keywordEach [] X.env)).all (λx=>x.1.isSome)
   &&decide ((e::es).length+([]:List Keyword).length+(if ([]:List Keyword).isEmpty then 0 else 1) < 30))=true:=by rfl)
  (bq:(aA.endLine == aj.line)=true:=by rfl) (ba:(backTo aj (starEach es X.env)).any (·.1)=false:=by rfl) :
  SD X B (.Expr (.Call (.Attribute (.Name x p1) "insert" aA) (e::es) [] aj) pos) (insS i t) :=
 PS.imp (oy (sB plainAttrs_list PySem.F.slot_list_insert PySem.F.type_list_insert wJ hv ha bp bQ bq cL ba) hs) λE U H q=>by
  obtain ⟨G,I,Γ,f,ac,r,e1,k⟩:=q
  obtain ⟨hm,e1⟩:=ou e1
  obtain ⟨ds,Γ1,e2,e3⟩:=i' e1
  obtain ⟨d2,ai,e4,e5⟩:=i' e3
  cases e5
  obtain ⟨p,xs,h1,h2⟩:=oo hm r
  refine ⟨_,h1,.inl ⟨rfl,xs,SqL.of h2⟩,G,I,Γ,ds,Γ1,r,e2,λvs H1 I1 r1 g1 hd=>?_⟩
  obtain ⟨p',aV,cs,df,h3,h4,h5,h6,h7⟩:=pD e4 r1
  have hp:p'=p:=by rw [h1] at h3;cases h3;rfl
  subst hp
  unfold insF at h6
  split at h6
  ·rename_i n d
   obtain ⟨⟨c1,c2,c3⟩,rfl⟩:=my h6
   obtain ⟨x1,lM,rfl,ki,kj⟩:=hd.cons_inv
   obtain ⟨x2,lN,rfl,kl,km⟩:=kj.cons_inv
   rw [km.nil_inv]
   obtain ⟨m,rfl⟩:=Int.eq_ofNat_of_zero_le c1
   have:=mn ki
   subst this
   have hl:=h5.length
   refine ⟨p',aV,m,x2,rfl,rfl,h4,by omega,?_,k U _ I1 (h7 _ (IsA.append (h5.take _) (IsA.cons kl (h5.drop _)))) g1⟩
   rw [← hl]
   exact lt_of_lt_of_le c3 (nS (le_refl _))
  ·cases h6
end
section
variable {X:Cx}{B:BB}{e a st:Expr}{es:List Expr}{pos p p2:Pos}{t:M (List D)}{ga gs:M D}{kr:Nat}
theorem A7 (hc:X.calm=true):CallR X (.builtin "min") (λxs H Q=>∃ (q:Addr) (i j:Int),xs=[.ref q]/\SqT X.K H q [.int i,.int j]/\Q (.int (if j < i then j else i)) H):=by
 intro aa s U H xs us Q I r h
 obtain ⟨q,i,j,rfl,hq,k⟩:=h
 obtain ⟨u,rfl,ru⟩:=vals1 r
 cases ru
 obtain ⟨ae,rv,T,_⟩:=I.tuple hq
 obtain ⟨u1,u2,rfl,⟨k1,rfl⟩,⟨k2,rfl⟩⟩:=rv.two
 have bK:q < s.heap.objs.size:=by obtain ⟨_,e,_⟩:=T;exact lt_size e
 refine call_min_walk (wpAny_pyIter_tuple T ?_)
 refine ⟨_,_,_,_,_,_,_,rfl,Walks.tuple (A:=X.A.in1) (I.ok.hd hc) _ q (ne_of_lt bK) #[.int i k1,.int j k2],⟨⟨_,get?_push_size _ rfl,rfl,rfl⟩,T.push _⟩,(λb hb=>?_),Nat.succ_pos 1,CmpOf.ints_lt (λn=>if n=0 then i else j) ?_,λv h' tk hP hk=>?_⟩
 ·show b < (s.heap.push _).objs.size
  rw [size_push]
  rcases mem_cons.mp hb with rfl | hb
  ·exact Nat.lt_succ_self _
  ·rw [mem_singleton.mp hb];exact Nat.lt_succ_of_lt bK
 ·intro n v hn
  match n,hn with
  | 0,hn=>cases hn;exact ⟨k1,rfl⟩
  | 1,hn=>cases hn;exact ⟨k2,rfl⟩
  | n+2,hn=>simp at hn
 ·have keep:∀ b o,s.heap.get? b=some o->h'.get? b=some o:=λb o e=>by
   refine hk b o (λhm=>?_) (get?_push_of_some _ e)
   have hm:=mem_singleton.mp hm
   exact absurd (hm▸lt_size e) (lt_irrefl _)
  refine ⟨_,H,I.kept keep,?_,k⟩
  simp only [size_toArray,length_cons,length_nil,Nat.reduceAdd,Nat.reduceSub,argBest] at hP
  by_cases c:j < i
  ·rw [if_pos c]
   simp [c] at hP
   subst hP
   exact ⟨_,rfl⟩
  ·rw [if_neg c]
   simp [c] at hP
   subst hP
   exact ⟨_,rfl⟩
theorem yi (hc:X.calm=true):CallR X (.builtin "max") (λxs H Q=>∃ (q:Addr) (i j:Int),xs=[.ref q]/\SqT X.K H q [.int i,.int j]/\Q (.int (if j > i then j else i)) H):=by
 intro aa s U H xs us Q I r h
 obtain ⟨q,i,j,rfl,hq,k⟩:=h
 obtain ⟨u,rfl,ru⟩:=vals1 r
 cases ru
 obtain ⟨ae,rv,T,_⟩:=I.tuple hq
 obtain ⟨u1,u2,rfl,⟨k1,rfl⟩,⟨k2,rfl⟩⟩:=rv.two
 have bK:q < s.heap.objs.size:=by obtain ⟨_,e,_⟩:=T;exact lt_size e
 refine call_max_walk (wpAny_pyIter_tuple T ?_)
 refine ⟨_,_,_,_,_,_,_,rfl,Walks.tuple (A:=X.A.in1) (I.ok.hd hc) _ q (ne_of_lt bK) #[.int i k1,.int j k2],⟨⟨_,get?_push_size _ rfl,rfl,rfl⟩,T.push _⟩,(λb hb=>?_),Nat.succ_pos 1,CmpOf.ints_gt (λn=>if n=0 then i else j) ?_,λv h' tk hP hk=>?_⟩
 ·show b < (s.heap.push _).objs.size
  rw [size_push]
  rcases mem_cons.mp hb with rfl | hb
  ·exact Nat.lt_succ_self _
  ·rw [mem_singleton.mp hb];exact Nat.lt_succ_of_lt bK
 ·intro n v hn
  match n,hn with
  | 0,hn=>cases hn;exact ⟨k1,rfl⟩
  | 1,hn=>cases hn;exact ⟨k2,rfl⟩
  | n+2,hn=>simp at hn
 ·have keep:∀ b o,s.heap.get? b=some o->h'.get? b=some o:=λb o e=>by
   refine hk b o (λhm=>?_) (get?_push_of_some _ e)
   have hm:=mem_singleton.mp hm
   exact absurd (hm▸lt_size e) (lt_irrefl _)
  refine ⟨_,H,I.kept keep,?_,k⟩
  simp only [size_toArray,length_cons,length_nil,Nat.reduceAdd,Nat.reduceSub,argBest] at hP
  by_cases c:j > i
  ·rw [if_pos c]
   simp [c] at hP
   subst hP
   exact ⟨_,rfl⟩
  ·rw [if_neg c]
   simp [c] at hP
   subst hP
   exact ⟨_,rfl⟩
noncomputable def minTF (ds:List D):Option D:=match ds with
 | [.tup [.int i,.int j]]=>some (.int (if j < i then j else i))
 | _=>none
noncomputable def maxTF (ds:List D):Option D:=match ds with
 | [.tup [.int i,.int j]]=>some (.int (if j > i then j else i))
 | _=>none
theorem sO {K:PySem.W.Frag}{I H:Hp}{i j:Int}{x:V} (sm:Same I H) (h:Is K I (.tup [.int i,.int j]) x):∃ q,x=.ref q/\SqT K H q [.int i,.int j]:=by
 obtain ⟨q,zs,rfl,h3,h4⟩:=mv h
 obtain ⟨z1,r1,rfl,g1,g2⟩:=h4.cons_inv
 obtain ⟨z2,r2,rfl,g3,g4⟩:=g2.cons_inv
 rw [g4.nil_inv] at h3
 have:=mn g1
 subst this
 have:=mn g3
 subst this
 exact ⟨q,rfl,Same.sqT sm h3⟩
theorem AB (hc:X.calm=true) (hg:Gl X "min") (hm:X.mg "min"=none) (ha:AD X B [e] t) (he:starEach [e] X.env=(false,eval e X.env)::starEach [] X.env:=by rfl) (az:(backTo pos (starEach [] X.env)).any (·.1)=false:=by rfl) :
  ED X B (.Call (.Name "min" p) [e] [] pos) (fn1 minTF t):=pG (A7 hc) (λds d e B G I H U Γ xs Q r h k=>by
 unfold minTF at e
 split at e
 ·cases e
  obtain ⟨x,rfl,hx⟩:=h.one
  obtain ⟨q,rfl,h3⟩:=sO r.iH hx
  exact ⟨q,_,_,rfl,h3,k.now r (by rw [Is])⟩
 ·cases e) hg hm boot_min ha (by decide) (by decide) he az
theorem B3 (hc:X.calm=true) (hg:Gl X "max") (hm:X.mg "max"=none) (ha:AD X B [e] t) (he:starEach [e] X.env=(false,eval e X.env)::starEach [] X.env:=by rfl) (az:(backTo pos (starEach [] X.env)).any (·.1)=false:=by rfl) :
  ED X B (.Call (.Name "max" p) [e] [] pos) (fn1 maxTF t):=pG (yi hc) (λds d e B G I H U Γ xs Q r h k=>by
 unfold maxTF at e
 split at e
 ·cases e
  obtain ⟨x,rfl,hx⟩:=h.one
  obtain ⟨q,rfl,h3⟩:=sO r.iH hx
  exact ⟨q,_,_,rfl,h3,k.now r (by rw [Is])⟩
 ·cases e) hg hm boot_max ha (by decide) (by decide) he az
end
end DL
namespace DL
open PySem PySem.W PySem.Spec PyProof.Rows L2
open PySem.SeqAt
open PySem.AutoSeq1 (wpAny_loadPart')
open PySem.MeetsSeq PySem.MeetsSeq2 PySem.MeetsSeq3
end DL
namespace DL
open PySem PySem.W PySem.Spec PyProof.Rows L2
noncomputable def altM {α:Type} (a b:M α):M α:=λΓ=>match a Γ with
 | some r=>some r
 | none=>b Γ
theorem uU {α:Type}{a b:M α}{Γ ac:Gm}{x:α} (h:altM a b Γ=some (x,ac)):a Γ=some (x,ac)\/b Γ=some (x,ac):=by
 unfold altM at h
 split at h
 ·rename_i e
  cases h
  exact .inl e
 ·exact .inr h
section
variable {X:Cx}{B:BB}{e:Expr}{st:Stmt}{pos:Pos}
theorem uR {a b:M D} (h1:ED X B e a) (h2:ED X B e b):ED X B e (altM a b):=λaa s U H Q I q=>by
 obtain ⟨G,I',Γ,d,ac,r,e1,k⟩:=q
 rcases uU e1 with e1 | e1
 ·exact h1 aa s U H Q I ⟨G,I',Γ,d,ac,r,e1,k⟩
 ·exact h2 aa s U H Q I ⟨G,I',Γ,d,ac,r,e1,k⟩
theorem Bh {a b:M Fl} (h1:SD X B st a) (h2:SD X B st b):SD X B st (altM a b):=λaa s U H E I q=>by
 obtain ⟨G,I',Γ,d,ac,r,e1,k⟩:=q
 rcases uU e1 with e1 | e1
 ·exact h1 aa s U H E I ⟨G,I',Γ,d,ac,r,e1,k⟩
 ·exact h2 aa s U H E I ⟨G,I',Γ,d,ac,r,e1,k⟩
end
end DL
namespace DL
open PySem PySem.W PySem.Spec PyProof.Rows L2
open PySem.SeqAt
open PySem.AutoSeq1 (wpAny_loadPart')
open PySem.MeetsSeq PySem.MeetsSeq2 PySem.MeetsSeq3
noncomputable def isStar:Expr->Bool
 | .Starred ..=>true
 | _=>false
theorem Bd {e:Expr}{aw:List Expr}{env:Env} (h:isStar e=false):starEach (e::aw) env=(false,eval e env)::starEach aw env:=by
 cases e<;>first | rfl | (simp [isStar] at h)
theorem gk {X:Cx}{B:BB}{e:Expr}{es:List Expr}{g:M D}{t:M (List D)} (ha:ED X B e g) (hr:AD X B es t) (h:isStar e=false):AD X B (e::es) (consA g t):=xB ha hr (Bd h)
end DL
namespace DL
open PySem PySem.Spec PyProof.Rows L2
noncomputable def kAll (f:Expr->Option (M D)):List Expr->Option (M (List D))
 | []=>some nilA
 | e::es=>match f e with
  | some g=>match kAll f es with
   | some t=>some (consA g t)
   | none=>none
  | none=>none
noncomputable def kM:Nat->Expr->Option (M D)
 | 0,_=>none
 | n+1,e=>match e with
  | .Constant (.int i) _ _=>some (ret (.int i))
  | .Constant (.bool b) _ _=>some (ret (.bl b))
  | .Constant .none _ _=>some (ret .non)
  | .Constant (.str x) _ _=>some (ret (.str x))
  | .UnaryOp .USub a _=>match kM n a with
   | some g=>some (un1 negI g)
   | none=>none
  | .BinOp a .Pow b _=>match kM n a with
   | some g=>match kM n b with
    | some h=>some (op2 powI g h)
    | none=>none
   | none=>none
  | .Tuple es _ _=>match kAll (kM n) es with
   | some t=>some (tupA t)
   | none=>none
  | .List es _=>match kAll (kM n) es with
   | some t=>some (frz (lstA t))
   | none=>none
  | _=>none
section
variable {X:Cx}{B:BB}
theorem p5 {f:Expr->Option (M D)} (hf:∀ e g,f e=some g->ED X B e g/\isStar e=false):∀ (es:List Expr) (t:M (List D)),kAll f es=some t->AD X B es t
 | [],t,h=>by cases h;exact io
 | e::es,t,h=>by
  rw [kAll] at h
  split at h
  ·rename_i g hg
   split at h
   ·rename_i t' ht
    cases h
    obtain ⟨h1,h2⟩:=hf e g hg
    exact gk h1 (p5 hf es t' ht) h2
   ·cases h
  ·cases h
theorem oB:∀ (n:Nat) (e:Expr) (g:M D),kM n e=some g->ED X B e g/\isStar e=false
 | 0,_,_,h=>by cases h
 | n+1,e,g,h=>by
  unfold kM at h
  split at h
  ·cases h;exact ⟨l9,rfl⟩
  ·cases h;exact ⟨pz,rfl⟩
  ·cases h;exact ⟨oj,rfl⟩
  ·cases h;exact ⟨mM,rfl⟩
  ·split at h
   ·rename_i g' hg
    cases h
    exact ⟨pq (oB n _ _ hg).1,rfl⟩
   ·cases h
  ·split at h
   ·rename_i g' hg
    split at h
    ·rename_i g2 ek
     cases h
     exact ⟨pJ (oB n _ _ hg).1 (oB n _ _ ek).1,rfl⟩
    ·cases h
   ·cases h
  ·split at h
   ·rename_i t ht
    cases h
    exact ⟨pR (p5 (oB n) _ _ ht),rfl⟩
   ·cases h
  ·split at h
   ·rename_i t ht
    cases h
    exact ⟨mw (mJ (p5 (oB n) _ _ ht)),rfl⟩
   ·cases h
  ·cases h
theorem nC {e1 e2 e3 e4:Expr}{es:List Expr}{g1 g2 g3 g4:M D}{t:M (List D)} (h1:ED X B e1 g1) (h2:ED X B e2 g2) (h3:ED X B e3 g3) (h4:ED X B e4 g4) (hr:AD X B es t) (s1:isStar e1=false) (s2:isStar e2=false) (s3:isStar e3=false) (s4:isStar e4=false):AD X B (e1::e2::e3::e4::es) (consA g1 (consA g2 (consA g3 (consA g4 t)))) :=
 gk h1 (gk h2 (gk h3 (gk h4 hr s4) s3) s2) s1
theorem ad_k {es:List Expr}{t:M (List D)} (h:kAll (kM 9) es=some t):AD X B es t:=p5 (oB 9) es t h
end
inductive KCs:List Expr->M (List D)->Prop
 | nil:KCs [] nilA
 | int {i:Int} {a b es t}:KCs es t->KCs (.Constant (.int i) a b::es) (consA (ret (.int i)) t)
 | bl {i:Bool} {a b es t}:KCs es t->KCs (.Constant (.bool i) a b::es) (consA (ret (.bl i)) t)
 | non {a b es t}:KCs es t->KCs (.Constant .none a b::es) (consA (ret .non) t)
 | str {i:Str} {a b es t}:KCs es t->KCs (.Constant (.str i) a b::es) (consA (ret (.str i)) t)
 | tup {fs u x p es t}:KCs fs u->KCs es t->KCs (.Tuple fs x p::es) (consA (tupA u) t)
end DL
namespace DL
open PySem PySem.W PySem.Spec PyProof.Rows L2 PySem.SetTable
end DL
namespace DL
open PySem PySem.W PySem.Spec PyProof.Rows L2
section
variable {X:Cx}{B:BB}{a b e:Expr}{ga gb:M D}{pos:Pos}{kr:Nat}
noncomputable def txt (i:Int):Str:=ofString (toString i)
theorem qE (d:Str):Str.empty++d=d:=by
 cases d with | mk a=>show (⟨#[]++a⟩:Str)=⟨a⟩;simp
end
end DL
namespace DL
open PySem PySem.Spec PyProof.Rows L2 PySem.W
theorem objThere {P:Program}{w:World}{H:Hp}{h:Heap}{a:Addr}:∀ {o:HO},ObjOk P w H h a o->∃ u,h.get? a=some u
 | .lst _,⟨_,_,_,_,e⟩=>⟨_,e⟩
 | .tup _,⟨_,_,_,_,e,_⟩=>⟨_,e⟩
 | .dK _,⟨_,_,_,_,_,_,_,e,_⟩=>⟨_,e⟩
 | .dT _,⟨_,_,_,_,_,_,_,e,_⟩=>⟨_,e⟩
 | .set _ _,⟨_,_,_,_,e,_⟩=>⟨_,e⟩
 | .ins _ _ _,⟨_,_,_,e,_⟩=>⟨_,e⟩
 | .own _,⟨_,e⟩=>⟨_,e⟩
 | .xd _,⟨_,⟨_,_,_,e,_⟩,_⟩=>⟨_,e⟩
 | .rng _ _,⟨_,_,_,e⟩=>⟨_,e⟩
 | .frz _ _,⟨e,_⟩=>⟨_,e⟩
 | .tbl _,x=>by first | exact ⟨_,x⟩ | (obtain ⟨_,e,_⟩:=x;exact ⟨_,e⟩)
 | .met _ _,e=>⟨_,e⟩
 | .ext _,⟨_,e,_⟩=>e
def Lasts (h h':Heap):Prop:=∀ b o,h.get? b=some o->∃ o',h'.get? b=some o'
theorem Lasts.none {h h':Heap} (l:Lasts h h'){b:Addr} (e:h'.get? b=none):h.get? b=none:=by
 cases z:h.get? b with
 | none=>rfl
 | some o=>obtain ⟨_,q⟩:=l b o z;rw [e] at q;cases q
def Flies (H:Hp) (h₀ h:Heap) (a C:Addr):Prop:=∃ oe vs a0,h.get? a=some oe/\oe.cls=.ref C/\oe.data=.fields vs/\vs[0]?=some a0/\H a=none/\h₀.get? a=none ∧
 (vs[1]?=some .none\/∃ T oT ts,vs[1]?=some (.ref T)/\T≠a/\h.get? T=some oT/\oT.data=.fields ts/\3 < ts.size/\H T=none/\h₀.get? T=none)
theorem Flies.back {H:Hp}{h₁ h₀ h:Heap}{a C:Addr} (F:Flies H h₀ h a C) (l:Lasts h₁ h₀):Flies H h₁ h a C:=by
 obtain ⟨oe,vs,a0,e1,e2,e3,e4,e5,e6,e7⟩:=F
 refine ⟨oe,vs,a0,e1,e2,e3,e4,e5,l.none e6,e7.imp id ?_⟩
 rintro ⟨T,oT,ts,f1,f2,f3,f4,f5,f6,f7⟩
 exact ⟨T,oT,ts,f1,f2,f3,f4,f5,f6,l.none f7⟩
structure Turn (H:Hp) (h₀ h h':Heap) (fr ch:List Addr):Prop where
 new:∀ b∈ch,H b=none/\h₀.get? b=none/\∃ o vs,h.get? b=some o/\o.data=.fields vs
 keep:∀ b o,h.get? b=some o->b∉ch->b∉fr->h'.get? b=some o
 slot:∀ b o,h.get? b=some o->b∈fr->∃ sl,h'.get? b=some { o with slots:=sl }
section
variable {P:Program}{w:World}{H:Hp}{h₀ h h' base:Heap}{l:List Env}{ch:List Addr}{a C:Addr}{a0:Value}
theorem qw (hl:h.FunFrames base l) (new:∀ b∈ch,H b=none/\h₀.get? b=none/\∃ o vs,h.get? b=some o/\o.data=.fields vs) (st:(hideAll h (ch++frs l)).StaysIn h') (up:h.UpToSlots h'):Turn H h₀ h h' (frs l) ch :=
 ⟨new,λb o e n1 n2=>st b o (hideAll_get _ e λm=>(mem_append.mp m).elim n1 n2),λb o e m=>up b o e (by
  obtain ⟨_,o',e',d⟩:=hl.mem m
  rw [e] at e';cases e'
  exact d)⟩
theorem tR (hok:HOk P w H h) (th:Lasts h₀ h) (hl:h.FunFrames base l) (T:Turn H h₀ h h' (frs l) ch) (ha:a∈ch){fl:Value} (t:h'.TracedAtW (hideAll h (ch++frs l)) a (.ref C) a0 fl):Flies H h₀ h' a C:=by
 obtain ⟨oe,vs,T',oT,ts,e1,⟨e2,e3⟩,e4,e5,e6,e7,e8,e9,kn⟩:=t
 have q:H T'=none/\h₀.get? T'=none:=by
  by_cases m:T'∈ch
  ·exact ⟨(T.new _ m).1,(T.new _ m).2.1⟩
  by_cases m2:T'∈frs l
  ·exfalso
   obtain ⟨_,o,eo,d⟩:=hl.mem m2
   obtain ⟨sl,es⟩:=T.slot _ _ eo m2
   rw [e8] at es;cases es
   exact d ts e9
  have n:h.get? T'=none:=by
   cases z:h.get? T' with
   | none=>rfl
   | some o=>rw [hideAll_get _ z λq=>(mem_append.mp q).elim m m2] at e6;cases e6
  refine ⟨?_,th.none n⟩
  cases z:H T' with
  | none=>rfl
  | some o=>obtain ⟨u,z2⟩:=objThere (hok _ _ z);rw [n] at z2;cases z2
 exact ⟨oe,vs,a0,e1,e2,e4,e3,(T.new a ha).1,(T.new a ha).2.1,.inr ⟨T',oT,ts,e5,e7,e8,e9,(Array.getElem?_eq_some_iff.mp kn).1,q.1,q.2⟩⟩
theorem pS (hl:h.FunFrames base l):h.FunFrames (hideAll h (ch++frs l)) l:=funFrames_hide hl λenv he b hb=>mem_append_right _ (List.mem_filterMap.mpr ⟨env,he,hb⟩)
variable {M:Model}{A:Around}{E:Value->Shared->Prop}{s:Shared}{Q:Unit->Shared->Prop}{env:Env}{outer:List Env}{L:Addr}
theorem yq (dy:A.frames=some (env::outer)) (hf:env.frame=some L) (hl:s.heap.FunFrames base (env::outer)) (hok:HOk P w H s.heap) (th:Lasts h₀ s.heap) (F:Flies H h₀ s.heap a C)
  (k:∀ h' ch a0 fl,a∈ch->Turn H h₀ s.heap h' (frs (env::outer)) ch->(hideAll s.heap (ch++frs (env::outer))).StaysIn h'->h'.FunFrames (hideAll s.heap (ch++frs (env::outer))) (env::outer)->h'.TracedAtW (hideAll s.heap (ch++frs (env::outer))) a (.ref C) a0 fl->Q () { s with heap:=h' }):wpAny M A (noteFrame (.ref a) env) Q E s:=by
 obtain ⟨oe,vs,a0,e1,e2,e3,e4,e5,e6,e7⟩:=F
 rcases e7 with e7 | ⟨T,oT,ts,f1,f2,f3,f4,f5,f6,f7⟩
 ·unfold noteFrame
  simp only [hf]
  refine wpAny_bind (wpAny_field e1 e3 e7 ?_)
  rw [if_neg (by decide)]
  refine wpAny_entryW (base:=hideAll s.heap ([a]++frs (env::outer))) dy (pS hl) hf e1 (λb o q=>of_hideAll _ q) (hideAll_none _ (.head _)) e3 (Array.getElem?_eq_some_iff.mp e7).1 e4 λh' hN=>?_
  obtain ⟨k1,k2,k3,k4⟩:=hN
  rw [e2] at k3
  exact k h' [a] a0 _ (.head _) (qw hl (λb hb=>by rw [mem_singleton.mp hb];exact ⟨e5,e6,_,_,e1,e3⟩) k1 k4) k1 k2 k3
 have new:∀ b∈[a,T],H b=none/\h₀.get? b=none/\∃ o vs,s.heap.get? b=some o/\o.data=.fields vs:=λb hb=>by
  rcases mem_cons.mp hb with z | z
  ·rw [z];exact ⟨e5,e6,_,_,e1,e3⟩
  ·rw [mem_singleton.mp z];exact ⟨f6,f7,_,_,f3,f4⟩
 have f8:ts[3]?=some ts[3]:=Array.getElem?_eq_getElem f5
 unfold noteFrame
 simp only [hf]
 refine wpAny_bind (wpAny_field e1 e3 f1 ?_)
 rw [if_pos (show (Value.ref T != Value.none)=true by simp)]
 refine wpAny_bind (wpAny_field f3 f4 f8 ?_)
 by_cases hz:(ts[3] == rawInt L)=true
 ·rw [if_pos hz]
  exact wpAny_pure (k s.heap [a,T] a0 ts[3] (.head _) (qw hl new (λb o q=>of_hideAll _ q) (.refl _)) (λb o q=>of_hideAll _ q) (pS hl) ⟨oe,vs,T,oT,ts,e1,⟨e2,e4⟩,e3,f1,hideAll_none _ (.tail _ (.head _)),f2,f3,f4,f8⟩)
 rw [if_neg hz]
 refine wpAny_bind (wpAny_setField f3 f4 f5 ?_)
 have cP:∀ b,b≠T->(s.heap.update T (Obj.mapFields (·.setIfInBounds 3 Value.none))).get? b=s.heap.get? b:=λb hb=>get?_update_other _ _ (symm hb)
 have ja:∀ b o,s.heap.get? b=some o->(∀ vs,o.data≠.fields vs)->b≠T:=λb o q n z=>by
  rw [z,f3] at q;cases q;exact n ts f4
 refine wpAny_entryW (base:=hideAll s.heap ([a,T]++frs (env::outer))) (oe:=oe) dy ((pS hl).of_keeps λb o q n=>⟨o,(cP b (ja b o q n)).trans q,rfl⟩) hf ((cP a (symm f2)).trans e1) (λb o q=>(cP b λz=>by have n:(hideAll s.heap ([a,T]++frs (env::outer))).get? T=none:=hideAll_none _ (.tail _ (.head _));rw [z,n] at q;cases q).trans (of_hideAll _ q)) (hideAll_none _ (.head _)) e3 (Array.getElem?_eq_some_iff.mp f1).1 e4 λh' hN=>?_
 obtain ⟨k1,k2,k3,k4⟩:=hN
 rw [e2] at k3
 exact k h' [a,T] a0 _ (.head _) (qw hl new k1 λb o q n=>k4 b o ((cP b (ja b o q n)).trans q) n) k1 k2 k3
theorem uJ (dy:A.frames=some (env::outer)) (hf:env.frame=some L) (hl:s.heap.FunFrames base (env::outer)) (hok:HOk P w H s.heap) (th:Lasts h₀ s.heap) (F:Flies H h₀ s.heap a C)
  (k:∀ h' ch,Turn H h₀ s.heap h' (frs (env::outer)) ch->Flies H h₀ h' a C->Q () { s with heap:=h' }):wpAny M A (noteFrame (.ref a) env) (λ_ al=>wpAny M A (setFlight (.ref a) none) Q E al) E s:=by
 refine yq dy hf hl hok th F λh1 ch a0 fl ha T k1 k2 k3=>?_
 refine wpAny_setFlight_noneW k1 k2 k3 λh2 j1 j2 j3 j4=>?_
 have T2:Turn H h₀ s.heap h2 (frs (env::outer)) ch:=⟨T.new,λb o e n1 n2=>j1 b o (hideAll_get _ e λm=>(mem_append.mp m).elim n1 n2),λb o e m=>by
  obtain ⟨sl,q⟩:=T.slot b o e m
  obtain ⟨_,o',e',d⟩:=hl.mem m
  rw [e] at e';cases e'
  exact ⟨sl,j4 b _ q d⟩⟩
 exact k h2 ch T2 (tR hok th hl T2 ha j3)
theorem zW (dy:A.frames=some (env::outer)) (hf:env.frame=some L) (hl:s.heap.FunFrames base (env::outer)) (hok:HOk P w H s.heap) (th:Lasts h₀ s.heap) (F:Flies H h₀ s.heap a C)
  (k:∀ h' ch,Turn H h₀ s.heap h' (frs (env::outer)) ch->Flies H h₀ h' a C->Q () { s with heap:=h' }):wpAny M A (leaving env (.ref a)) Q E s:=by
 unfold leaving
 exact wpAny_bind (uJ dy hf hl hok th F k)
end
noncomputable def CXX (P:Program) (w:World):CXT:=λouter H s E e s'=>∃ a C H',e=.ref a/\s'.os=s.os/\AllBare s'.gens/\Un (frs outer) [] H H' s.heap s'.heap/\HOk P w H' s'.heap/\Flies H' s.heap s'.heap a C/\E (.ref C) none H'
def Xz (X:Cx) (C:Addr) (U:L2.St) (H:Hp):Prop:=∀ aa s h₁ a,Inv X aa U H s->(∀ b o,X.s₀.heap.get? b=some o->b∉X.ex->∃ o',h₁.get? b=some o')->(∀ p∈X.pn++aa,∃ o,h₁.get? p.1=some o)->Lasts h₁ s.heap->Flies H h₁ s.heap a C->X.xe (.ref a) s
theorem Turn.hok {X:Cx}{aa:List (Addr×Obj)}{U:L2.St}{H:Hp}{s:Shared}{h₀ h':Heap}{ch:List Addr} (T:Turn H h₀ s.heap h' (frs X.stack) ch) (I:Inv X aa U H s):HOk X.prog X.w H h':=λb u e=>by
 have no:∀ c v,H c=some v->c∉ch/\c∉frs X.stack:=λc v q=>⟨λm=>(by rw [(T.new c m).1] at q;cases q),λm=>(by rw [I.stkFree c m] at q;cases q)⟩
 refine (I.hok b u e).stay (λc v hc q=>?_) (λ_ q=>q) (λ_ _ q=>q)
 rcases hc with rfl | z
 ·exact T.keep c v q (no c u e).1 (no c u e).2
 ·exact T.keep c v q (no c _ z).1 (no c _ z).2
section
variable {P:Program}{w:World}{K:PySem.W.Frag}{mg:Str->Option Value}{base:Heap}{N:List Str}{qual:Str}{scope:Scope}{f:Addr}{am:Value}{A:Around}{outer:List Env}{s:Shared}{H H':Hp}{E:XK}{C:Addr}{U:L2.St}
theorem zh (he:E (.ref C) none H'):Xz (cxOf (CXX P w) P w K mg base N qual scope f am A outer s H E) C U H':=λaa s1 h₁ a I c1 c2 c3 F=>by
 refine zW I.ok.frames rfl I.stack I.hok c3 F λh' ch T F'=>?_
 have jb:Lasts s.heap h₁:=λb o e=>c1 b o e (λz=>nomatch z)
 have bu:∀ b o,s.heap.get? b=some o->b∉ch:=λb o e m=>by
  obtain ⟨_,q⟩:=jb b o e
  rw [(T.new b m).2.1] at q;cases q
 have ko:∀ b o,s.heap.get? b=some o->b∉frs outer->b∉frs (envOfC qual scope s.heap.objs.size f am::outer):=λb o e n m=>by
  rcases mem_cons.mp (I.stkSub b m) with z | z
  ·exact absurd (lt_size e) (by rw [z];exact lt_irrefl _)
  ·exact n z
 refine ⟨a,C,H',rfl,I.os,I.bare,⟨λb o e n hb _=>T.keep b o (I.base.keep b o e n hb (λz=>nomatch z)) (bu b o e) (ko b o e hb),λb o e n hb _=>?_,λb o e n _=>I.base.free b o e n (λz=>nomatch z),λb o e _=>?_,I.base.tups,I.base.frzs,?_⟩,T.hok I,F'.back jb,he⟩
 ·obtain ⟨sl,e1⟩:=I.base.slot b o e n hb (λz=>nomatch z)
  obtain ⟨fM,e2⟩:=T.slot b _ e1 (by unfold frs;rw [filterMap_cons];exact mem_cons_of_mem _ hb)
  exact ⟨fM,e2⟩
 ·obtain ⟨o',e1⟩:=I.base.there b o e (λz=>nomatch z)
  by_cases m:b∈frs (envOfC qual scope s.heap.objs.size f am::outer)
  ·obtain ⟨sl,e2⟩:=T.slot b _ e1 m;exact ⟨_,e2⟩
  ·exact ⟨_,T.keep b _ e1 (bu b o e) m⟩
 ·exact I.base.tbls
end
noncomputable def tX (X:Cx) (B:BB) (cl:Nat->Addr) (m:M Nat):TE:=λU H _=>∃ G I Γ C ac,Rep X.K B G I H U Γ/\m Γ=some (C,ac)/\∀ H' I',Rep X.K B G I' H' U ac->Grow G I I'->Xz X (cl C) U H'
noncomputable def tSX (X:Cx) (B:BB) (cl:Nat->Addr) (m:M Nat):TS:=λ_ U H=>∃ G I Γ C ac,Rep X.K B G I H U Γ/\m Γ=some (C,ac)/\∀ af H' I',Rep X.K B G I' H' af ac->Grow G I I'->Xz X (cl C) af H'
def XD (X:Cx) (B:BB) (cl:Nat->Addr) (e:Expr) (m:M Nat):Prop:=PE X e (tX X B cl m)
def SX (X:Cx) (B:BB) (cl:Nat->Addr) (st:Stmt) (m:M Nat):Prop:=PS X st (tSX X B cl m)
def SXs (X:Cx) (B:BB) (cl:Nat->Addr) (st:List Stmt) (m:M Nat):Prop:=PSs X st (tSX X B cl m)
noncomputable def orX (a b:M Nat):M Nat:=λΓ=>match a Γ with
 | some r=>some r
 | none=>b Γ
noncomputable def thenX (g:M Fl) (m:M Nat):M Nat:=bnd g λf=>match f with
 | .nx=>m
 | _=>λ_=>none
noncomputable def nvX:M Nat:=λ_=>none
theorem Bi {X:Cx}{B:BB}{cl:Nat->Addr}{E:Ends}{U:L2.St}{H:Hp} (q:tSX X B cl nvX E U H):False:=by obtain ⟨_,_,_,_,_,_,e,_⟩:=q;cases e
section
variable {X:Cx}{B:BB}{cl:Nat->Addr}{st:Stmt}{aw:List Stmt}{g:M Fl}{m m':M Nat}{e:Expr}{es:List Expr}{pos:Pos}
theorem wK:SXs X B cl aw nvX:=λ_ _ _ _ _ _ q=>(Bi q).elim
theorem Bj (h:SX X B cl st m):SXs X B cl [st] m:=sF h
theorem zZ (h:SD X B st g) (h1:SX X B cl st m) (h2:SXs X B cl aw m'):SXs X B cl (st::aw) (orX m (thenX g m')):=by
 have hh:PS X st λD U H=>tS X.K B g D U H\/tSX X B cl m D U H:=λaa s U H D I q=>q.elim (h aa s U H D I) (h1 aa s U H D I)
 refine PSs.imp (qA hh h2) λE U H q=>?_
 obtain ⟨G,I,Γ,C,ac,r,e1,k⟩:=q
 unfold orX at e1
 cases z:m Γ with
 | some y=>rw [z] at e1;cases e1;exact .inr ⟨G,I,Γ,C,ac,r,z,k⟩
 | none =>
  rw [z] at e1
  obtain ⟨f,Γ1,e2,e3⟩:=i' e1
  refine .inl ⟨G,I,Γ,f,Γ1,r,e2,λbX H1 I1 r1 g1=>?_⟩
  cases f with
  | nx=>exact ⟨G,I1,Γ1,C,ac,r1,e3,λaf H' I' r' g'=>k af H' I' r' (g1.trans g')⟩
  | rt _=>cases e3
  | bk=>cases e3
  | ct=>cases e3
noncomputable def ifX (c:M Bool) (a b:M Nat):M Nat:=bnd c λk=>if k then a else b
theorem zt {c:Expr}{tc:M Bool}{sa sb:List Stmt} (hc:TD X B c tc) (ha:SXs X B cl sa m) (hb:SXs X B cl sb m'):SX X B cl (.If c sa sb pos) (ifX tc m m'):=PS.imp (tF hc ha hb) λE U H q=>by
 obtain ⟨G,I,Γ,C,ac,r,e1,k⟩:=q
 obtain ⟨d,Γ1,e2,e3⟩:=i' e1
 refine ⟨G,I,Γ,d,Γ1,r,e2,λH1 I1 r1 g1=>?_⟩
 cases d with
 | true=>exact iteT ⟨G,I1,Γ1,C,ac,r1,e3,λaf H' I' r' g'=>k af H' I' r' (g1.trans g')⟩
 | false=>exact iteF ⟨G,I1,Γ1,C,ac,r1,e3,λaf H' I' r' g'=>k af H' I' r' (g1.trans g')⟩
theorem tSX.tX {E:Ends}{U:L2.St}{H:Hp}{Q:VK} (q:tSX X B cl m E U H):DL.tX X B cl m U H Q:=by
 obtain ⟨G,I,Γ,C,ac,r,e1,k⟩:=q
 exact ⟨G,I,Γ,C,ac,r,e1,λH' I'=>k U H' I'⟩
theorem nz (he:XD X B cl e m) (hs:swapsWith e none pos.line X.env=pure false:=by rfl):SX X B cl (.Expr e pos) m:=PS.imp (oy he hs) λ_ _ _ q=>q.tX
noncomputable def spE (K:PySem.W.Frag) (cl:Nat->Addr) (gx:List D->Option Nat):Sp:=λvs H _ E=>∃ I ds C,Same I H/\IsA K I ds vs/\gx ds=some C/\∀ H',Same H H'->E (.ref (cl C)) none H'
noncomputable def fnX (gx:List D->Option Nat) (t:M (List D)):M Nat:=bnd t λds=>lft (gx ds)
theorem Bo {k:Nat}{f:Addr}{fd:FuncData}{ps:List Str}{gx:List D->Option Nat}{x:Str}{p:Pos}{t:M (List D)} (F:FnOk X.prog X.w X.K X.mg X.base (CXX X.prog X.w) k f fd ps (spE X.K cl gx)) (hr:Room k X.A) (hg:Gl X x) (hm:X.mg x=some (.ref f)) (hk:keepIn X.K (.ref f)=true) (hb:Binds X.K fd ps []) (ha:AD X B (e::es) t)
  (aM:(x == ("__debug__":Str))=false:=by decide) (he:starEach (e::es) X.env=(false,eval e X.env)::starEach es X.env:=by rfl) (az:(backTo pos (starEach es X.env)).any (·.1)=false:=by rfl) :
  XD X B cl (.Call (.Name x p) (e::es) [] pos) (fnX gx t):=by
 intro aa s U H Q I h
 obtain ⟨G,J,Γ,C,ac,r,e1,kk⟩:=h
 obtain ⟨ds,Γ1,e2,e3⟩:=i' e1
 obtain ⟨e4,rfl⟩:=mr e3
 refine wpAny_Call_Name_kw (nR I hg hm ?_ aM)
 refine callWith_K (h₀:=X.base) I.ok.mod.kin hk (thn (ha pos aa s U H (λvs H1=>∃ J1,Rep X.K B G J1 H1 U ac/\Grow G J J1/\IsA X.K J1 ds vs) I ⟨G,J,Γ,ds,_,r,e2,λvs H1 J1 r1 g1 h1=>⟨J1,r1,g1,h1⟩⟩) λus s1 ⟨vs,H1,I1,rv,J1,r1,g1,h1⟩=>⟨I1.kIn,?_⟩) he az
 have sp:spE X.K cl gx vs H1 (λ_ _=>False) (λc _ H2=>c=.ref (cl C)/\Same H1 H2):=⟨J1,ds,C,r1.iH,h1,e4,λH' z=>⟨rfl,z⟩⟩
 have hl:us.length=ps.length:=by rw [← rv.length];exact F.len _ _ _ _ sp
 have bb:=hb s1 us I1.kIn (by rw [append_nil];exact hl)
 rw [append_nil] at bb
 refine wpAny_call (codeAny_mono (F.run X.A X.stack s1 H1 ⟨us,[]⟩ us vs _ _ hr I1.env0 bb rv sp) λrr s' hq=>?_)
 cases rr with
 | ok fl =>
  cases fl with
  | ret u=>obtain ⟨_,_,_,_,_,_,_,z⟩:=hq;exact z.elim
  | next=>exact hq.elim
  | brk=>exact hq.elim
  | cont=>exact hq.elim
 | error ex =>
  obtain ⟨a,C',H2,rfl,o1,o2,o3,o4,o5,o6,o7⟩:=hq
  cases o6
  have I2:Inv X aa U H2 s':=I1.call' o1 o3 o4 o2 (λb z=>nomatch z)
  exact kk H2 J1 (r1.ext (Same.refl _) o7 (r1.iH.trans o7) λb o z=>.inl z) g1 aa s' s1.heap a I2 (λb o z n=>I1.base.there b o z n) (λq hq=>⟨_,(I1.pin q hq).1⟩) (λb o z=>o3.there b o z (λq=>nomatch q)) o5
end
noncomputable def fnE (n ar:Nat) (m:M Nat) (ds:List D):Option Nat:=if ds.length=ar then (m ((ds.map R.val).map some++replicate (n - ds.length) none)).map (·.1) else none
theorem wD {K:PySem.W.Frag}{N:List Str}{I H:Hp}{ds:List D}{vs:List V} (iH:Same I H) (h:IsA K I ds vs):Rep K (λi=>(L2.start N vs)[i]?) H I H (L2.start N vs) ((ds.map R.val).map some++replicate (N.length - ds.length) none) where
 iH:=iH
 gH:=Same.refl _
 len:=by unfold L2.start;simp [h.length]
 slot:=λi q e=>by
  have e':=oG e
  obtain ⟨d,e1,rfl⟩:=getMap e'
  obtain ⟨v,e2,e3⟩:=h.get e1
  refine ⟨v,?_,e3⟩
  unfold L2.start
  rw [getElem?_append_left (by rw [length_map];exact (List.getElem?_eq_some_iff.mp e2).1),getElem?_map,e2];rfl
 dist:=λi j q q' v e e' m m' s1 s2=>by
  obtain ⟨d,_,rfl⟩:=getMap (oG e)
  cases m
 bor:=λi es e=>rfl
section
variable {P:Program}{w:World}{K:PySem.W.Frag}{mg:Str->Option Value}{base:Heap}
theorem pC {cl:Nat->Addr}{x qual:Str}{st:Stmt}{f:Addr}{fd:FuncData}{N ps:List Str}{k:Nat} (F:Fun K x qual st f fd) (S:FnScope N ps (defScope st)) (m:M Nat)
  (hb:∀ (am:Value) (A:Around) (outer:List Env) (s:Shared) (H:Hp) (E:XK) (B:BB),Room k (A.deeper (envOfC qual (defScope st) s.heap.objs.size f am)) →
   SXs (cxOf (CXX P w) P w K mg base N qual (defScope st) f am A outer s H E) B cl (defBody st) m):FnOk P w K mg base (CXX P w) (k+1) f fd ps (spE K cl (fnE N.length ps.length m)):=by
 obtain ⟨oc,od,kV,aZ,pm,an,am,ct,bP,rfl,lk,bh⟩:=F.ex
 have par:∀ {ds:List D}{C:Nat},fnE N.length ps.length m ds=some C->ds.length=ps.length/\∃ ac,m ((ds.map R.val).map some++replicate (N.length - ds.length) none)=some (C,ac):=λ{ds C} e=>by
  unfold fnE at e
  by_cases hc:ds.length=ps.length
  ·rw [if_pos hc] at e
   cases z:m ((ds.map R.val).map some++replicate (N.length - ds.length) none) with
   | none=>rw [z] at e;cases e
   | some y=>rw [z] at e;cases e;exact ⟨hc,_,rfl⟩
  ·rw [if_neg hc] at e;cases e
 refine uH lk bh S (λvs H Q E h=>?_) λA outer s H vs Q E hr h=>?_
 ·obtain ⟨I,ds,C,_,h2,h3,_⟩:=h
  rw [← h2.length];exact (par h3).1
 ·obtain ⟨I,ds,C,iH,h2,h3,h4⟩:=h
  obtain ⟨hc,ac,e⟩:=par h3
  exact ⟨_,hb am A outer s H E (λi=>(L2.start N vs)[i]?) hr,H,I,_,C,ac,wD iH h2,e,λaf H' I' r' _=>zh (h4 H' r'.gH)⟩
end
theorem uE {K:Frag}{h:Heap}{C:Addr}{bB:List Value}{ni:String} (X:K.In h) (q:excIn K C bB ni=true) :
  ∃ t n nm qn bs hd sn sub ab col dd k0 k1 k2 k3 k5 mN,h.get? C=some (excClassObj nm qn C n bs t hd sn sub ab col dd k0 k1 k2 k3 k5 ni)/\h.Ns n mN/\mN "__init__"=none/\OwnTail h bB t:=by
 unfold excIn at q
 split at q
 case h_2=>cases q
 case h_1 dd cd sl ho =>
  split at q
  case h_2=>cases q
  case h_1 c1 t k0 k1 k2 k3 n k5 e1 e2 =>
   simp only [beq_iff_eq,and_eq_true,not_eq_true'] at q
   obtain ⟨⟨⟨⟨⟨z1,z2⟩,z3⟩,z4⟩,z5⟩,z6⟩:=q
   subst z1 z2
   obtain ⟨a1,a2,a3,a4,a5,a6,a7,a8,a9,b1,b2⟩:=cd
   have e3:sl=#[k0,k1,k2,k3,some (.builtin n),k5]:=by rw [← e2]
   dsimp only at e1 z3 z5 z6
   subst e1 z3 e3
   exact ⟨t,a4,a1,a5,a2,a6,a7,a8,a9,b1,dd,k0,k1,k2,k3,k5,_,X _ _ ho,.of_isNs (isNs_of_in X z5),nsMap_none_of_in X z5 z6,tail_of_in X z4⟩
noncomputable abbrev VEs:List Value:=[.type "ValueError", .type "Exception", .type "BaseException", .type "object"]
noncomputable def xcIn (K:Frag) (C:Addr):Bool:=excIn K C VEs "ValueError.__new__"
theorem rh {P:Program}{w:World}{H:Hp}{h h':Heap}{a C:Addr}{vs:List Value} (hok:HOk P w H h) (m:Heap.MadeExcOf h h' a (.ref C) vs):Flies H h h' a C:=by
 obtain ⟨t,e1,_,_⟩:=m.there
 refine ⟨_,_,_,e1,rfl,rfl,rfl,?_,m.new,.inl rfl⟩
 cases z:H a with
 | none=>rfl
 | some o=>obtain ⟨_,q⟩:=objThere (hok _ _ z);rw [m.new] at q;cases q
noncomputable def raX (C:Nat) (t:M (List D)):M Nat:=bnd t λds=>lft (if ds.length<=5 then some C else none)
section
variable {X:Cx}{B:BB}{cl:Nat->Addr}{e:Expr}{es:List Expr}{pos:Pos}
theorem uw {x:Str}{C:Nat}{np aj:Pos}{t:M (List D)} (hc:X.calm=true) (hg:Gl X x) (hm:X.mg x=some (.ref (cl C))) (hx:xcIn X.K (cl C)=true) (ha:AD X B (e::es) t)
  (aM:(x == ("__debug__":Str))=false:=by decide) (he:starEach (e::es) X.env=(false,eval e X.env)::starEach es X.env:=by rfl) (az:(backTo aj (starEach es X.env)).any (·.1)=false:=by rfl) :
  SX X B cl (.Raise (some (.Call (.Name x np) (e::es) [] aj)) none pos) (raX C t):=by
 intro aa s U H D I h
 obtain ⟨G,J,Γ,C',ac,r,e1,kk⟩:=h
 obtain ⟨ds,Γ1,e2,e3⟩:=i' e1
 obtain ⟨e4,rfl⟩:=mr e3
 obtain ⟨hl,rfl⟩:=my e4
 obtain ⟨tl,n,nm,qn,bs,hd,sn,sub,ab,col,dd,k0,k1,k2,k3,k5,mN,hC,hN,dz,T⟩:=uE I.ok.mod.kin hx
 refine wpAny_Raise_call_subT (nm:=nm) (q:=qn) (N:=n) (bs:=bs) (bm:=tl) (hdct:=hd) (sn:=sn) (sub:=sub) (ab:=ab) (col:=col) (dd:=dd) (k0:=k0) (k1:=k1) (k2:=k2) (k3:=k3) (k5:=k5) excBase_ValueError (mN:=mN) (T.hasType excBase_ValueError.hasBase) (I.ok.hd hc)
  (by rw [he];show (false||(backTo aj (starEach es X.env)).any (·.1))=false;rw [az];rfl) dz (nR I hg hm ⟨rfl,?_⟩ aM)
 have hh:=ha aj aa s U H (λvs H1=>∃ J1,Rep X.K B G J1 H1 U ac/\Grow G J J1/\IsA X.K J1 ds vs) I ⟨G,J,Γ,ds,_,r,e2,λvs H1 J1 r1 g1 h1=>⟨J1,r1,g1,h1⟩⟩
 rw [he] at hh ⊢
 refine Calls.evalArgs_plain (thn hh λus s2 ⟨vs,H1,I1,rv,J1,r1,g1,h1⟩=>⟨rfl,?_,I1.bk _ _ hC,hN.keeps I1.bk,T.keeps I1.bk,λh' a hM=>?_⟩)
 ·rw [← rv.length,← h1.length]
  exact le_trans hl (by decide)
 ·exact kk U H1 J1 r1 g1 aa _ s2.heap a (I1.kept (t':=s2.toks) hM.keeps) (λb o z n=>I1.base.there b o z n) (λq hq=>⟨_,(I1.pin q hq).1⟩) (λb o z=>⟨o,hM.keeps b o z⟩) (rh I1.hok hM)
theorem Turn.inv {aa:List (Addr×Obj)}{U:L2.St}{H:Hp}{s:Shared}{h₁ h':Heap}{ch:List Addr} (T:Turn H h₁ s.heap h' (frs X.stack) ch) (I:Inv X aa U H s) (c1:∀ b o,X.s₀.heap.get? b=some o->b∉X.ex->∃ o',h₁.get? b=some o') (c2:∀ p∈X.pn++aa,∃ o,h₁.get? p.1=some o):Inv X aa U H { s with heap:=h' }:=by
 have lO:∀ b∈ch,b∉frs X.stack:=λb hb m=>by
  obtain ⟨_,_,o,vs,e,d⟩:=T.new b hb
  obtain ⟨_,o',e',d'⟩:=I.stack.mem m
  rw [e] at e';cases e'
  exact d' vs d
 refine I.callN (g':=s.gens) (d':=s.drawn) (t':=s.toks) (ch:=ch) ⟨λb o e _ n2 n3=>T.keep b o e n3 n2,λb o e _ m _=>T.slot b o e m,λb o e n _=>n,λb o e n=>?_,λ_ _ z=>z,λ_ _ _ z=>z,λb q z=>by first | exact z | exact ⟨#[],by rw [z];simp⟩⟩ (T.hok I) I.bare λb hb=>?_
 ·by_cases m:b∈frs X.stack
  ·obtain ⟨sl,q⟩:=T.slot b o e m;exact ⟨_,q⟩
  ·exact ⟨_,T.keep b o e n m⟩
 ·obtain ⟨n1,n2,o,vs,e,d⟩:=T.new b hb
  refine ⟨?_,λz=>?_,λy c hy z=>?_,λp hp z=>?_⟩
  ·by_cases m:b∈X.ex
   ·exact .inl m
   ·refine .inr ?_
    cases q:X.s₀.heap.get? b with
    | none=>rfl
    | some o'=>obtain ⟨_,q'⟩:=c1 b o' q m;rw [n2] at q';cases q'
  ·obtain ⟨_,⟨o',es,ep,e',d',_⟩,_⟩:=I.loc
   rw [← z,e] at e';cases e'
   rw [d] at d';cases d'
  ·obtain ⟨v,o',e',d'⟩:=I.cell y c hy
   rw [z,e] at e';cases e'
   rw [d] at d';cases d'
  ·obtain ⟨_,q⟩:=c2 p hp
   rw [z,n2] at q;cases q
theorem yV {P:Program}{w:World}{H:Hp}{h₀ base:Heap}{l:List Env}{a C:Addr}{M:Model}{A:Around}{E:Value->Shared->Prop}{s:Shared}{Q:Unit->Shared->Prop} (hl:s.heap.FunFrames base l) (hok:HOk P w H s.heap) (th:Lasts h₀ s.heap) (F:Flies H h₀ s.heap a C)
  (k:∀ h' ch,Turn H h₀ s.heap h' (frs l) ch->Flies H h₀ h' a C->Q () { s with heap:=h' }):wpAny M A (setFlight (.ref a) none) Q E s:=by
 have F0:=F
 obtain ⟨oe,vs,a0,e1,e2,e3,e4,e5,e6,e7⟩:=F
 rcases e7 with e7 | ⟨T,oT,ts,f1,f2,f3,f4,f5,f6,f7⟩
 ·unfold setFlight
  refine wpAny_bind (wpAny_field e1 e3 e7 ?_)
  rw [if_neg (by decide)]
  exact wpAny_pure (k s.heap [] ⟨λ_ z=>(nomatch z),λb o e _ _=>e,λb o e _=>⟨o.slots,e⟩⟩ F0)
 ·refine wpAny_setFlight_noneW (base:=hideAll s.heap ([a,T]++frs l)) (l:=l) (cls:=.ref C) (a0:=a0) (fl:=ts[3]) (λb o q=>of_hideAll _ q) (pS hl) ⟨oe,vs,T,oT,ts,e1,⟨e2,e4⟩,e3,f1,hideAll_none _ (.tail _ (.head _)),f2,f3,f4,Array.getElem?_eq_getElem f5⟩ λh' k1 k2 k3 k4=>?_
  have T':=qw (H:=H) (h₀:=h₀) (ch:=[a,T]) hl (λb hb=>by
   rcases mem_cons.mp hb with rfl | hb
   ·exact ⟨e5,e6,_,_,e1,e3⟩
   ·rw [mem_singleton.mp hb];exact ⟨f6,f7,_,_,f3,f4⟩) k1 (λb o e n=>⟨o.slots,k4 b o e n⟩)
  exact k h' [a,T] T' (tR hok th hl T' (.head _) k3.at)
theorem Turn.lasts {H:Hp}{h₀ h h':Heap}{fr ch:List Addr} (T:Turn H h₀ h h' fr ch) (l:Lasts h₀ h):Lasts h₀ h':=λb o e=>by
 obtain ⟨o',e'⟩:=l b o e
 by_cases m:b∈fr
 ·obtain ⟨sl,q⟩:=T.slot b o' e' m;exact ⟨_,q⟩
 ·exact ⟨_,T.keep b o' e' (λz=>by rw [(T.new b z).2.1] at e;cases e) m⟩
end
noncomputable abbrev Cx.tried (X:Cx) (E:Value->Shared->Prop) (pn:List (Addr×Obj)):Cx:={ X with xe:=E,pn:=pn }
noncomputable abbrev Cx.suite (X:Cx) (a:Addr):Cx:={ X with A:=X.A.mark (some (.ref a)),calm:=false,xe:=λ_ _=>False }
section
variable {X:Cx}{aa ps:List (Addr×Obj)}{U:L2.St}{H:Hp}{s:Shared}{E:Value->Shared->Prop}{a:Addr}
theorem wZ {pn:List (Addr×Obj)} (ok:X.Ok):(Cx.tried X E pn).Ok:=by
 cases ok;constructor<;>assumption
theorem wR {pn:List (Addr×Obj)} (ok:(Cx.tried X E pn).Ok):X.Ok:=by
 cases ok;constructor<;>assumption
theorem vX (I:Inv X aa U H s):Inv (Cx.tried X E (X.pn++aa)) [] U H s :=
 ⟨wZ I.ok,I.os,I.bare,I.base,I.loc,I.cell,I.free,I.freeC,λp hp=>I.pin p (by rw [append_nil] at hp;exact hp),I.hok,I.len⟩
theorem px (I:Inv (Cx.tried X E (X.pn++aa)) ps U H s):Inv X aa U H s :=
 ⟨wR I.ok,I.os,I.bare,I.base,I.loc,I.cell,I.free,I.freeC,λp hp=>I.pin p (mem_append_left _ hp),I.hok,I.len⟩
theorem xH (ok:X.Ok):(Cx.suite X a).Ok:=by
 have hf:(X.A.mark (some (.ref a))).frames=some X.stack:=ok.frames
 cases ok;constructor<;>first | assumption | exact λz=>nomatch z
theorem vz (I:Inv X aa U H s):Inv (Cx.suite X a) aa U H s :=
 ⟨xH I.ok,I.os,I.bare,I.base,I.loc,I.cell,I.free,I.freeC,I.pin,I.hok,I.len⟩
theorem BN (k:X.Ok) (I:Inv (Cx.suite X a) aa U H s):Inv X aa U H s :=
 ⟨k,I.os,I.bare,I.base,I.loc,I.cell,I.free,I.freeC,I.pin,I.hok,I.len⟩
end
section
variable {X:Cx}{B:BB}{cl:Nat->Addr}{e c:Expr}{es:List Expr}{pos:Pos}{m m':M Nat}{g:M D}{st:Stmt}{aw sa sb:List Stmt}{gs:M Fl}{tc:M Bool}
@[irreducible] def XI (X:Cx) (B:BB) (cl:Nat->Addr) (st:Stmt) (m:M Nat):Prop:=SX X B cl st m
@[irreducible] def XIs (X:Cx) (B:BB) (cl:Nat->Addr) (ss:List Stmt) (m:M Nat):Prop:=SXs X B cl ss m
theorem mZ (k:SX X B cl st m):XI X B cl st m:=by unfold XI;exact k
theorem oJ (k:XIs X B cl aw m):SXs X B cl aw m:=by unfold XIs at k;exact k
theorem t8:XIs X B cl aw nvX:=by unfold XIs;exact wK
theorem nE (k:XI X B cl st m):XIs X B cl [st] m:=by unfold XI at k;unfold XIs;exact Bj k
theorem sC (k:XI X B cl st m):XIs X B cl (st::aw) m:=by
 unfold XI at k;unfold XIs
 exact qA (u:=λ_ _ _=>False) k λ_ _ _ _ _ _ z=>z.elim
theorem rE (k:SI X B st gs) (k1:XI X B cl st m) (t:XIs X B cl aw m'):XIs X B cl (st::aw) (orX m (thenX gs m')):=by
 unfold SI at k;unfold XI at k1;unfold XIs at t ⊢;exact zZ k k1 t
theorem qG (hc:TD X B c tc) (ha:XIs X B cl sa m) (hb:XIs X B cl sb m'):XI X B cl (.If c sa sb pos) (ifX tc m m'):=by
 unfold XIs at ha hb;unfold XI;exact zt hc ha hb
end
end DL
namespace DL
open PySem PySem.Spec PyProof.Rows PySem.W
structure XCls (K:Frag) (C:Addr):Prop where
 ga:findIn K (.ref C) "__getattribute__"=some (some (.builtin "BaseException.__getattribute__"))
 ng:findIn K (.ref C) "__getattr__"=some none
 cl:findIn K (.ref C) "__class__"=some (some (.builtin "object.__class__"))
 ob:mroIn K C (.type "object")=some true
 be:mroIn K C (.type "BaseException")=some true
section
variable {K:Frag}{prog:Program}{w:World}{A:Around}{E:Value->Shared->Prop}{x C:Addr}{o:Obj}{vs:Array Value}
theorem Ci {h:Heap}{g:Array GenState}{d:Drawn}{t:Nat}{os:OsState}{Q:Option Value->Shared->Prop} (c:XCls K C) (X:K.In h) (hx:h.get? x=some o) (hc:o.cls=.ref C) (hd:o.data=.fields vs) (q:Q (some (.ref C)) ⟨h,g,d,t+1,os⟩) :
  wpAny (model prog w) A (getAttr? (.ref x) "__class__") Q E ⟨h,g,d,t,os⟩:=by
 obtain ⟨oc,od,kq,bP⟩:=o
 dsimp only at hc hd
 subst hc hd
 have lo1:=looks_findIn (M:=model prog w) X c.ga
 have kt:=looks_findIn (M:=model prog w) X c.ng
 have kx:=looks_findIn (M:=model prog w) X c.cl
 have ky:=looks_mroIn (M:=model prog w) X c.be
 have kz:=looks_mroIn (M:=model prog w) X c.ob
 have jc:Looks (model prog w) h (typeOf (.ref x)) (.ref C):=(Looks.ld hx).andThen .now
 unfold getAttr?
 unfold getAttrBy? getAttrBy
 refine wpAny_bind (wpAny_mkText (wpAny_bind (wpAny_attempt (wpAny_holding (wpAny_bind (jc.at (wpAny_bind (lo1.at ?_))))))))
 have no:(onTheHeap (Value.ref C)&&builtin "BaseException.__getattribute__" == builtin "object.__getattribute__")=false:=by
  rw [show (builtin "BaseException.__getattribute__" == builtin "object.__getattribute__")=false from by decide +kernel,Bool.and_false]
 dsimp only
 rw [no,if_neg Bool.false_ne_true]
 unfold getAttrByItsOwn
 have f3:=attrBase_ValueError.ga.bind (.ref x)
 repeat (any_goals (first | assumption | (with_reducible refine kt.at ?_) | (with_reducible refine wpAny_loadPart_at hx ?_)  | wp_step))
 show codeAny _ _ (.call _ ⟨[_,_],[]⟩) _ _
 refine codeAny_call_builtin attrBase_ValueError.ga.plain PySem.F.entry_bexc_ga ?_
 have k1:builtinKind "BaseException.__getattribute__"=some .slot:=by decide +kernel
 have k2:splitId "BaseException.__getattribute__"=some ("BaseException", "__getattribute__"):=by decide +kernel
 have k3:=PySem.F.args_bexc_ga (.ref x) (.str "__class__" t)
 simp only [checkBuiltinCall,k1,k2]
 refine wpAny_bind ?_
 unfold isInstance
 refine wpAny_bind (jc.at (ky.at ?_))
 repeat (any_goals (first | wp_step | assumption))
 have T5:(⟨h,g,d,t+1,os⟩:Shared).TypeIs (.builtin "object.__class__") "getset_descriptor":=PySem.F.typeOf_object_class
 have f5:=PySem.F.typeOf_object_class
 have f6:=slot_gs_get.lookup
 have f7:=PySem.F.slot_gs_set.lookup
 repeat (any_goals (first | assumption | (with_reducible refine kx.at ?_) | (with_reducible refine wpAny_loadPart_at hx ?_)  | wp_step))
 refine codeAny_call_builtin slot_gs_get.plain PySem.F.entry_gs_get (slot_gs_get.check _ _ _ _ _ _ _ _ T5 (PySem.F.args_gs_get _ _ _) ?_)
 have kA:Looks (model prog w) h (isSubtype (.ref C) (.type (".".intercalate ("object.__class__".cutAt '.').dropLast))) true:=by rw [show (".".intercalate ("object.__class__".cutAt '.').dropLast) = "object" from by decide +kernel];exact kz
 repeat (any_goals (first | assumption | (with_reducible refine kA.at ?_) | (with_reducible refine wpAny_loadPart_at hx ?_)  | wp_step))
 refine ⟨Code.quiet_builtin _ (by decide +kernel),codeAny_builtin PySem.F.entry_object_class ?_⟩
 repeat (any_goals (first | assumption | (with_reducible refine wpAny_loadPart_at hx ?_)  | wp_step))
end
end DL
namespace DL
open PySem PySem.Spec PyProof.Rows L2 PySem.W
theorem Cn {K:Frag}{a C:Addr} (c:XCls K C):KitX K (.ref a) (.ref C) (λh=>∃ o vs,h.get? a=some o/\o.cls=.ref C/\o.data=.fields vs) where
 ty:=λM h _ ⟨o,vs,h1,h2,_⟩=>h2▸(Looks.ld h1).andThen .now
 it:=λM h X _=>by
  obtain ⟨cd,hc,_⟩:=bind_eq_some_iff.mp c.ob
  unfold clsIn at hc
  split at hc
  ·rename_i ho
   intro A Q E s kp qq
   unfold isType loadHead
   exact wpAny_bind (wpAny_loadPart (kp _ _ (X _ _ ho)) (wpAny_pure qq))
  ·cases hc
 ne:=λh tp _ _ _ _ X kB=>by
  obtain ⟨cd,hc,_⟩:=bind_eq_some_iff.mp c.ob
  refine Bool.eq_false_iff.mpr λqq=>?_
  cases Value.ref.inj (beq_iff_eq.mp qq)
  unfold clsIn at hc
  split at hc
  ·rename_i ho
   cases (X _ _ ho).symm.trans kB
  ·cases hc
 ca:=λ{prog w A E Q s} X ⟨o,vs,h1,h2,h3⟩ k=>by
  obtain ⟨h,g,d,t,os⟩:=s
  exact Ci c X h1 h2 h3 k
noncomputable def xNames:List Str:=["NoKin", "NoHouse", "NoRoad", "Ring", "NoHold", "NoLetter", "NoStep", "NoText", "NoRow", "NoLog"]
noncomputable def yNames:List Str := "RoofError"::xNames
noncomputable def subX (x y:Str):Bool:=x == y||y == ("RoofError":Str)
noncomputable def xclsB (K:Frag) (C:Addr):Bool:=findIn K (.ref C) "__getattribute__" == some (some (.builtin "BaseException.__getattribute__"))&&findIn K (.ref C) "__getattr__" == some none &&
 findIn K (.ref C) "__class__" == some (some (.builtin "object.__class__"))&&mroIn K C (.type "object") == some true&&mroIn K C (.type "BaseException") == some true
theorem xU {K:Frag}{C:Addr} (h:xclsB K C=true):XCls K C:=by
 unfold xclsB at h
 simp only [and_eq_true,beq_iff_eq] at h
 obtain ⟨⟨⟨⟨h1,h2⟩,h3⟩,h4⟩,h5⟩:=h
 exact ⟨h1,h2,h3,h4,h5⟩
noncomputable def xTab (K:Frag):Bool:=xNames.all λx=>xclsB K (clOf K x)&&(kitOne K (.ref (clOf K x)) (.type "ValueError") == some true)&&yNames.all λy=>kitOne K (.ref (clOf K x)) (.ref (clOf K y)) == some (subX x y)
theorem tQ {K:Frag} (h:xTab K=true){x:Str} (hx:xNames.contains x=true):XCls K (clOf K x):=by
 have:=all_eq_true.mp h x (by simpa using hx)
 simp only [and_eq_true] at this
 exact xU this.1.1
theorem za {K:Frag} (h:xTab K=true){x:Str} (hx:xNames.contains x=true):kitOne K (.ref (clOf K x)) (.type "ValueError")=some true:=by
 have:=all_eq_true.mp h x (by simpa using hx)
 simp only [and_eq_true,beq_iff_eq] at this
 exact this.1.2
theorem An {K:Frag} (h:xTab K=true){x y:Str} (hx:xNames.contains x=true) (hy:yNames.contains y=true):kitOne K (.ref (clOf K x)) (.ref (clOf K y))=some (subX x y):=by
 have:=all_eq_true.mp h x (by simpa using hx)
 simp only [and_eq_true] at this
 exact beq_iff_eq.mp (all_eq_true.mp this.2 y (by simpa using hy))
noncomputable def isxF (y:Str) (d:D):Option D:=match d with
 | .exc x _=>if xNames.contains x=true/\yNames.contains y=true then some (.bl (subX x y)) else none
 | _=>none
noncomputable def isvF (d:D):Option D:=match d with
 | .exc x _=>if xNames.contains x=true then some (.bl true) else none
 | _=>none
section
variable {X:Cx}{B:BB}{e:Expr}{ga:M D}{pos:Pos}
theorem vy {aa:List (Addr×Obj)}{U:L2.St}{H:Hp}{s:Shared}{a:Addr}{x:Str}{d:Option Addr} (I:Inv X aa U H s) (h:H a=some (ExO X.K a x d)):∃ o vs,s.heap.get? a=some o/\o.cls=.ref (clOf X.K x)/\o.data=.fields vs/\∀ dx,d=some dx->o.dict=some dx:=by
 obtain ⟨p,_⟩:=I.hok a _ h
 exact p
theorem wc (hX:xTab X.K=true){aa:List (Addr×Obj)}{U:L2.St}{H:Hp}{s:Shared}{Q:VK}{x:Str}{n:Option Int}{v:V}{u c:Value}{b:Bool}{A:Around}{E:Value->Shared->Prop} (I:Inv X aa U H s) (hx:xNames.contains x=true) (hd:Is X.K H (.exc x n) v) (r:RelV v u) (k:kitOne X.K (.ref (clOf X.K x)) c=some b) (q:Q (.bl b) H) :
  wpAny (model X.prog X.w) A (call (.builtin "isinstance") [u,c]) (EP X aa U Q) E s:=by
 obtain ⟨a,d,rfl,h1,_⟩:=qy hd
 cases (show u=Value.ref a from r)
 obtain ⟨o,vs,e1,e2,e3,_⟩:=vy I h1
 exact kia_one (Cn (tQ hX hx)) I.kIn ⟨o,vs,e1,e2,e3⟩ k (λz=>nomatch z) λtk=>⟨.bl b,H,I.tok _,rfl,q⟩
theorem BO (hX:xTab X.K=true) (y:Str):CallR X (.builtin "isinstance") (λxs H Q=>∃ x n v,xs=[v,.ref (clOf X.K y)]/\(xNames.contains x=true/\yNames.contains y=true)/\Is X.K H (.exc x n) v/\Q (.bl (subX x y)) H):=by
 intro aa s U H xs us Q I r h
 obtain ⟨x,n,v,rfl,⟨hx,hy⟩,hd,q⟩:=h
 cases r with
 | cons rx r =>
  cases r with
  | cons rt r =>
   cases r
   cases rt
   exact wc hX I hx hd rx (An hX hx hy) q
theorem yu (hX:xTab X.K=true):CallR X (.builtin "isinstance") (λxs H Q=>∃ x n v,xs=[v,.ty "ValueError"]/\xNames.contains x=true/\Is X.K H (.exc x n) v/\Q (.bl true) H):=by
 intro aa s U H xs us Q I r h
 obtain ⟨x,n,v,rfl,hx,hd,q⟩:=h
 cases r with
 | cons rx r =>
  cases r with
  | cons rt r =>
   cases r
   cases rt
   exact wc hX I hx hd rx (za hX hx) q
end
section
variable {X:Cx}{aa:List (Addr×Obj)}{U:L2.St}{H:Hp}{s:Shared}
theorem vh {P:Program}{w:World}{H':Hp}{h:Heap}{K:Frag}{a:Addr}{x:Str}{d:Option Addr}{o:Obj}{vs:Array Value} (e1:h.get? a=some o) (e2:o.cls=.ref (clOf K x)) (e3:o.data=.fields vs) (e4:∀ dx,d=some dx->o.dict=some dx):ObjOk P w H' h a (ExO K a x d) :=
 ⟨⟨o,vs,e1,e2,e3,e4⟩,⟨o,e1⟩,λh1 h2 ⟨o',gU,q1,q2,q3,q4⟩ k=>⟨o',gU,k _ q1,q2,q3,q4⟩⟩
theorem Inv.track {a:Addr}{x:Str}{h₁:Heap} (I:Inv X aa U H s) (c1:∀ b o,X.s₀.heap.get? b=some o->b∉X.ex->∃ o',h₁.get? b=some o') (c2:∀ p∈X.pn++aa,∃ o,h₁.get? p.1=some o) (F:Flies H h₁ s.heap a (clOf X.K x)):Inv X aa U (upd H a (ExO X.K a x none)) s:=by
 obtain ⟨oe,vs,a0,e1,e2,e3,_,e5,e6,_⟩:=F
 have up:=mG e5 (ExO X.K a x none)
 refine ⟨I.ok,I.os,I.bare,⟨I.base.keep,I.base.slot,λb o q n hx=>?_,I.base.there,λb xs q=>up _ _ (I.base.tups b xs q),λb o u q=>up _ _ (I.base.frzs b o u q),λb ps q=>let ⟨m,z⟩:=I.base.tbls b ps q;⟨m,up _ _ z⟩⟩,I.loc,I.cell,?_,λy c hy=>?_,λp hp=>?_,λb u q=>?_,I.len⟩
 ·rw [ma λz=>?_]
  ·exact I.base.free b o q n hx
  ·obtain ⟨_,k⟩:=c1 b o q hx
   rw [z,e6] at k;cases k
 ·rw [ma λz=>?_]
  ·exact I.free
  ·obtain ⟨_,⟨o',es,ep,e',d',_⟩,_⟩:=I.loc
   rw [z,e1] at e';cases e'
   rw [e3] at d';cases d'
 ·rw [ma λz=>?_]
  ·exact I.freeC y c hy
  ·obtain ⟨v,o',e',d'⟩:=I.cell y c hy
   rw [z,e1] at e';cases e'
   rw [e3] at d';cases d'
 ·obtain ⟨k1,k2,k3,k4,k5⟩:=I.pin p hp
  refine ⟨k1,?_,k3,k4,k5⟩
  rw [ma λz=>?_]
  ·exact k2
  ·obtain ⟨_,k⟩:=c2 p hp
   rw [z,e6] at k;cases k
 ·by_cases hb:b=a
  ·subst hb
   rw [mq] at q
   cases q
   exact vh e1 e2 e3 λdx z=>nomatch z
  ·rw [ma hb] at q
   exact (I.hok b u q).stay (λc v _ z=>z) (λc z=>up _ _ z) (λc xs z=>up _ _ z)
theorem zA {M:Model}{A:Around}{E:Value->Shared->Prop}{i:Nat}{x:Str}{pos:Pos}{Q:Unit->Shared->Prop} (I:Inv X aa U H s) (hN:X.N.Nodup) (hi:X.N[i]?=some x) (hx:X.env.kindOf x=some .local) (k:∀ s',Inv X aa (U.set i none) H s'->Q () s') :
  wpAny M A (do bindName X.env x .none;unbindBehindTheSuite X.env x pos) Q E s:=by
 obtain ⟨m,hn,hl⟩:=id I.loc
 have cne:=I.cne
 obtain ⟨oL,_,_,ii,_⟩:=id hn
 refine wpAny_nameGoes_keeps hx hn (by rw [I.ok.kind];rfl) λh' v bW hs=>?_
 have aP:∀ b o,X.s₀.heap.get? b=some o->b≠X.env.locals:=λb o e=>ne_of_lt (lt_of_lt_of_le (lt_size e) I.ok.above)
 refine k _ ⟨I.ok,I.os,I.bare,⟨λb o e n hb hx=>(hs.2 b (aP b o e)).trans (I.base.keep b o e n hb hx),λb o e n hb hx=>?_,I.base.free,λb o e hx=>?_,I.base.tups,I.base.frzs,I.base.tbls⟩,⟨_,bW,λj y v' e1 e2 e3=>?_⟩,λy c e=>?_,I.free,I.freeC,λp hp=>?_,λb ob e=>?_,by rw [length_set];exact I.len⟩
 ·obtain ⟨sl,e1⟩:=I.base.slot b o e n hb hx
  exact ⟨sl,(hs.2 b (aP b o e)).trans e1⟩
 ·obtain ⟨o',e1⟩:=I.base.there b o e hx
  exact ⟨o',(hs.2 b (aP b o e)).trans e1⟩
 ·by_cases hj:j=i
  ·subst hj
   rw [List.getElem?_set] at e2
   split at e2
   ·split at e2<;>cases e2
   ·exact absurd rfl ‹_›
  ·rw [getElem?_set_ne (symm hj)] at e2
   obtain ⟨u',r',q⟩:=hl j y v' e1 e2 e3
   refine ⟨u',r',?_⟩
   rcases q with ⟨z1,z2⟩ | ⟨z1,c,z2,z3⟩
   ·have ne:y≠x:=λz=>hj (r9 hN e1 (z▸hi))
    exact .inl ⟨z1,by simp [ne,z2]⟩
   ·exact .inr ⟨z1,c,z2,z3.sameBut hs (cne y c z2)⟩
 ·obtain ⟨w',z⟩:=I.cell y c e
  exact ⟨w',z.sameBut hs (cne y c e)⟩
 ·obtain ⟨z1,z2,z3,z4,z5⟩:=I.pin p hp
  exact ⟨(hs.2 p.1 z3).trans z1,z2,z3,z4,z5⟩
 ·refine (I.hok b ob e).stay (λc u hc q=>(hs.2 c λz=>?_).trans q) (λ_ q=>q) λ_ _ q=>q
  rw [z] at hc
  rcases hc with hc | hc
  ·rw [← hc,I.free] at e;cases e
  ·rw [I.free] at hc;cases hc
end
noncomputable def xTop (K:Frag):Bool:=typeIn K (.ref (clOf K "RoofError")) == some (.type "type")&&mroIn K (clOf K "RoofError") (.type "BaseException") == some true&&xNames.all λx=>mroIn K (clOf K x) (.ref (clOf K "RoofError")) == some true
theorem zC {K:Frag}{M:Model}{A:Around}{E:Value->Shared->Prop}{h:Heap}{g:Array GenState}{d:Drawn}{t:Nat}{os:OsState}{a C T:Addr}{o:Obj}{Q:Bool->Shared->Prop} (X:K.In h) (ty:typeIn K (.ref T)=some (.type "type")) (be:mroIn K T (.type "BaseException")=some true) (sb:mroIn K C (.ref T)=some true) (e1:h.get? a=some o) (e2:o.cls=.ref C) (q:Q true ⟨h,g,d,t,os⟩) :
  wpAny M A (excMatches (.ref a) (.ref T)) Q E ⟨h,g,d,t,os⟩:=by
 have L1:=looks_typeIn (M:=M) X ty
 have L2:=looks_mroIn (M:=M) X be
 have L3:=looks_mroIn (M:=M) X sb
 have L4:Looks M h (isType (.ref T)) true:=by
  obtain ⟨cd,hc,_⟩:=bind_eq_some_iff.mp be
  unfold clsIn at hc
  split at hc
  ·rename_i ho
   intro A Q E s kp qq
   unfold isType loadHead
   exact wpAny_bind (wpAny_loadPart (kp _ _ (X _ _ ho)) (wpAny_pure qq))
  ·cases hc
 have L5:Looks M h (typeOf (.ref a)) (.ref C):=e2▸(Looks.ld e1).andThen .now
 have f:=tc_notTuple
 unfold excMatches isInstance isExcClass
 repeat (first | (with_reducible refine L1.at ?_) | (with_reducible refine L4.at ?_) | (with_reducible refine L2.at ?_) | (with_reducible refine L3.at ?_) | (with_reducible refine L5.at ?_) | wp_step)
 exact q
noncomputable def xNm (n:Nat):Str:=xNames.getD n "NoKin"
theorem yQ (n:Nat):xNames.contains (xNm n)=true:=by
 match n with
 | 0 | 1 | 2 | 3 | 4 | 5 | 6 | 7 | 8 | 9=>decide
 | k+10=>have e:xNm (k+10) = "NoKin":=rfl;rw [e];decide
noncomputable def clN (K:Frag) (n:Nat):Addr:=clOf K (xNm n)
noncomputable def clr (j:Nat):M Unit:=λΓ=>some ((),Γ.set j none)
noncomputable def tryE (g:M Fl) (m:M Nat) (j i:Nat):M Fl:=λΓ=>match m Γ with
 | some (c,Γ1)=>(bnd (putS j (.val (.exc (xNm c) none))) λ_=>bnd (setV i (nm j)) λ_=>bnd (clr j) λ_=>ret .nx) Γ1
 | none=>g Γ
theorem Rep.gone {K:Frag}{B:BB}{G I H:Hp}{U:L2.St}{Γ:Gm} (r:Rep K B G I H U Γ) (i:Nat):Rep K B G I H (U.set i none) (Γ.set i none) where
 iH:=r.iH
 gH:=r.gH
 len:=by rw [length_set,length_set];exact r.len
 slot:=λj q e=>by
  rcases mz e with ⟨_,z,_⟩ | ⟨n,z⟩
  ·cases z
  ·rw [getElem?_set_ne (symm n)];exact r.slot j q z
 dist:=λj k q q' v e e' m m' s1 s2=>by
  rcases mz e with ⟨_,z,_⟩ | ⟨n,z⟩
  ·cases z
  rcases mz e' with ⟨_,z',_⟩ | ⟨n',z'⟩
  ·cases z'
  rw [getElem?_set_ne (symm n)] at s1
  rw [getElem?_set_ne (symm n')] at s2
  exact r.dist j k q q' v z z' m m' s1 s2
 bor:=λj ds e=>by
  rcases mz e with ⟨_,z,_⟩ | ⟨n,z⟩
  ·cases z
  ·rw [getElem?_set_ne (symm n)];exact r.bor j ds z
section
variable {X:Cx}{B:BB}
theorem Aq {body:List Stmt}{g:M Fl}{m:M Nat}{y z:Str}{i j:Nat}{np ep yp ap hp pos:Pos} (hX:xTop X.K=true) (hN:X.N.Nodup) (fH:X.stack=X.env::X.outer) (kC:X.env.frame=some X.env.locals) (hm:X.mg "RoofError"=some (.ref (clOf X.K "RoofError")))
  (hb:∀ E pn,SDs (Cx.tried X E pn) B body g) (kD:∀ E pn,SXs (Cx.tried X E pn) B (clN X.K) body m) (hg:Gl X "RoofError":=by exact rfl) (hi:X.N[i]?=some y:=by rfl) (hj:X.N[j]?=some z:=by rfl) (hy:locB X.env.scope y=true:=by rfl) (hf:fnB X y=true:=by rfl)
  (hz:X.env.scope.names.lookup z=some .local:=by rfl) (hv:visB X.env.scope z=true:=by rfl) (kE:X.env.kindOf z=some .local:=by rfl) (kF:(z == ("__debug__":Str))=false:=by decide) (kG:(z == ("__classdict__":Str))=false:=by decide)
  (hs:∀ a,swapsWith (.Name z ep) (some (.Name y yp)) ap.line (Cx.suite X a).env=pure false:=by intro _;rfl) :
  SD X B (.Try body [.ExceptHandler (some (.Name "RoofError" np)) (some z) [.Assign [.Name y yp] (.Name z ep) ap] hp] [] [] pos) (tryE g m j i):=by
 intro aa s U H D I q
 obtain ⟨G,J,Γ,f,ac,r,e1,k⟩:=q
 unfold tryE at e1
 cases em:m Γ with
 | none =>
  rw [em] at e1
  refine wpAny_Try_except (thn (hb _ (X.pn++aa) [] s U H D (vX I) ⟨G,J,Γ,f,ac,r,e1,k⟩) λfl s1 q=>?_)
  cases fl with
  | next=>obtain ⟨af,H',I',q⟩:=q;exact wpAny_execs_nil ⟨af,H',px I',q⟩
  | brk=>obtain ⟨af,H',I',q⟩:=q;exact ⟨af,H',px I',q⟩
  | cont=>obtain ⟨af,H',I',q⟩:=q;exact ⟨af,H',px I',q⟩
  | ret u=>obtain ⟨v,af,H',I',q⟩:=q;exact ⟨v,af,H',px I',q⟩
 | some cy =>
  obtain ⟨c,Γ1⟩:=cy
  rw [em] at e1
  obtain ⟨_,ai,e2,e3⟩:=i' e1
  obtain ⟨kH,aF,e4,e5⟩:=i' e3
  obtain ⟨_,aI,e6,e7⟩:=i' e5
  cases e7
  cases e6
  have kI:=e4
  obtain ⟨hl,rfl⟩:=pd e2
  have kJ:kH=.nx:=by
   obtain ⟨_,_,_,z2⟩:=i' e4
   obtain ⟨_,_,_,z4⟩:=i' z2
   cases z4;rfl
  subst kJ
  refine wpAny_Try_except (thn (kD _ (X.pn++aa) [] s U H ⟨λ_ _=>False,λ_ _=>False,λ_ _=>False,λ_ _=>False⟩ (vX I) ⟨G,J,Γ,c,Γ1,r,em,λaf H' I' r' g'=>?_⟩) λfl s1 q=>?_)
  rotate_left
  ·cases fl with
   | next=>obtain ⟨_,_,_,q⟩:=q;exact q.elim
   | brk=>obtain ⟨_,_,_,q⟩:=q;exact q.elim
   | cont=>obtain ⟨_,_,_,q⟩:=q;exact q.elim
   | ret u=>obtain ⟨_,_,_,_,_,q⟩:=q;exact q.elim
  intro ps s1 h₁ a I1 c1 c2 c3 F
  have I2:=px I1
  have gY:∀ p∈X.pn++aa,∃ o,h₁.get? p.1=some o:=λp hp=>c2 p (mem_append_left _ hp)
  have fr:=I2.ok.frames
  have st:=I2.stack
  rw [fH] at fr st
  show wpAny (model X.prog X.w) X.A (noteFrame (.ref a) X.env) _ _ s1
  refine uJ fr kC st I2.hok c3 F λh2 ch T F2=>?_
  rw [← fH] at T
  have I3:=T.inv I2 c1 gY
  have l3:=T.lasts c3
  unfold xTop at hX
  simp only [and_eq_true,beq_iff_eq] at hX
  obtain ⟨⟨x1,x2⟩,x3⟩:=hX
  have x4:mroIn X.K (clN X.K c) (.ref (clOf X.K "RoofError"))=some true:=beq_iff_eq.mp (all_eq_true.mp x3 _ (by have:=yQ c;simpa using this))
  obtain ⟨oe,vs,a0,f1,f2,f3,f4,f5⟩:=id F2
  refine wpAny_handleBy_cons (codeAny_handlers_test (nR (X:=Cx.suite X a) (vz I3) hg hm (zC I3.kIn x1 x2 x4 f1 f2 (codeAny_handlers_suite_as ?_)) (by decide))) (by intro q;cases q)
  refine yV I3.stack I3.hok l3 F2 λh3 lP T3 F3=>?_
  have I4:=T3.inv I3 c1 gY
  have I5:=DL.Inv.track I4 (x:=xNm c) c1 gY F3
  obtain ⟨_,_,_,_,_,_,_,free,_⟩:=id F3
  have rA:=r'.alloc free (ExO X.K a (xNm c) none)
  have gA:=r'.growAlloc free (ExO X.K a (xNm c) none)
  refine qP (X:=Cx.suite X a) (v:=.ref a) (vz I5) hN hj (.inl hz) rfl (λs4 I6=>?_) (.inr hz)
  have rB:=rA.store (i:=j) (q:=.val (.exc (xNm c) none)) (v:=.ref a) (by rw [rA.len];exact hl) (Is.exc mq λk z=>nomatch z) (λz=>nomatch z) (λ_ z=>nomatch z)
  have jd:SDs (Cx.suite X a) B [.Assign [.Name y yp] (.Name z ep) ap] (setV i (nm j)):=vP (uL (X:=Cx.suite X a) hN (sP (pv j hj hv kF kG)) hi hy (hs a) hf)
  refine wpAny_mono (jd aa _ _ _ ⟨λfJ je=>∃ dA,Rep X.K B G dA je fJ aF/\Grow G (upd I' a (ExO X.K a (xNm c) none)) dA,λ_ _=>False,λ_ _=>False,λ_ _=>False⟩ I6 ⟨G,_,_,.nx,aF,rB,kI,λfJ je dA kK kL=>⟨dA,kK,kL⟩⟩) (λfl s5 q=>?_) λ_ _ z=>z.elim
  cases fl with
  | next =>
   obtain ⟨cA,H5,I7,dA,r5,g5⟩:=q
   refine zA (BN I.ok I7) hN hj kE λs6 I8=>?_
   exact ⟨_,H5,I8,k _ H5 dA (r5.gone j) (g'.trans (gA.trans g5))⟩
  | brk=>obtain ⟨_,_,_,q⟩:=q;exact q.elim
  | cont=>obtain ⟨_,_,_,q⟩:=q;exact q.elim
  | ret u=>obtain ⟨_,_,_,_,_,q⟩:=q;exact q.elim
theorem AW {y:Str}{ga:M D}:∀ U H Q,tD X.K B (un1 (isxF y) ga) U H Q->tCB (λxs H Q=>∃ x n v,xs=[v,.ref (clOf X.K y)]/\(xNames.contains x=true/\yNames.contains y=true)/\Is X.K H (.exc x n) v/\Q (.bl (subX x y)) H) (tCons (tD X.K B ga) (tCons (tC (.ref (clOf X.K y))) tNil)) U H Q:=λU H Q q=>by
 obtain ⟨G,I,Γ,d,ac,r,e1,k⟩:=q
 obtain ⟨d1,Γ1,e2,e3⟩:=i' e1
 obtain ⟨e4,rfl⟩:=mr e3
 unfold isxF at e4
 split at e4
 ·obtain ⟨h1,rfl⟩:=my e4
  exact ⟨G,I,Γ,_,_,r,e2,λv H1 I1 r1 g1 h2=>⟨_,_,v,rfl,h1,h2.mono r1.iH,k _ _ _ r1 g1 (Is.bl _)⟩⟩
 ·cases e4
theorem wF {ga:M D}:∀ U H Q,tD X.K B (un1 isvF ga) U H Q->tCB (λxs H Q=>∃ x n v,xs=[v,.ty "ValueError"]/\xNames.contains x=true/\Is X.K H (.exc x n) v/\Q (.bl true) H) (tCons (tD X.K B ga) (tCons (tC (.ty "ValueError")) tNil)) U H Q:=λU H Q q=>by
 obtain ⟨G,I,Γ,d,ac,r,e1,k⟩:=q
 obtain ⟨d1,Γ1,e2,e3⟩:=i' e1
 obtain ⟨e4,rfl⟩:=mr e3
 unfold isvF at e4
 split at e4
 ·obtain ⟨h1,rfl⟩:=my e4
  exact ⟨G,I,Γ,_,_,r,e2,λv H1 I1 r1 g1 h2=>⟨_,_,v,rfl,h1,h2.mono r1.iH,k _ _ _ r1 g1 (Is.bl _)⟩⟩
 ·cases e4
variable {e:Expr}{ga:M D}{pos:Pos}
theorem mW {y:Str}{p p2:Pos} (hX:xTab X.K=true) (hg:Gl X "isinstance") (hm:X.mg "isinstance"=none) (ek:Gl X y) (fe:X.mg y=some (.ref (clOf X.K y))) (ha:ED X B e ga) (hd:(y == ("__debug__":Str))=false:=by decide)
  (he:starEach [e,.Name y p2] X.env=(false,eval e X.env)::starEach [.Name y p2] X.env:=by rfl) (et:starEach [.Name y p2] X.env=(false,eval (.Name y p2) X.env)::starEach [] X.env:=by rfl) (az:(backTo pos (starEach [.Name y p2] X.env)).any (·.1)=false:=by rfl) :
  ED X B (.Call (.Name "isinstance" p) [e,.Name y p2] [] pos) (un1 (isxF y) ga) :=
 PE.imp (p9 (BO hX y) hg hm boot_isinstance (mX ha (mX (As (v:=.ref (clOf X.K y)) ek fe rfl hd) nW et) he) (by decide) (by decide) he az) AW
theorem Cc {p p2:Pos} (hX:xTab X.K=true) (hg:Gl X "isinstance") (hm:X.mg "isinstance"=none) (ek:Gl X "ValueError") (fe:X.mg "ValueError"=none) (ha:ED X B e ga)
  (he:starEach [e,.Name "ValueError" p2] X.env=(false,eval e X.env)::starEach [.Name "ValueError" p2] X.env:=by rfl) (et:starEach [.Name "ValueError" p2] X.env=(false,eval (.Name "ValueError" p2) X.env)::starEach [] X.env:=by rfl) (az:(backTo pos (starEach [.Name "ValueError" p2] X.env)).any (·.1)=false:=by rfl) :
  ED X B (.Call (.Name "isinstance" p) [e,.Name "ValueError" p2] [] pos) (un1 isvF ga) :=
 PE.imp (p9 (yu hX) hg hm boot_isinstance (mX ha (mX (Ac (v:=.ty "ValueError") ek fe (by decide +kernel) rfl) nW et) he) (by decide) (by decide) he az) wF
end
noncomputable def mkE (x:Str) (t:M (List D)):M D:=bnd t λds=>lft (if ds.length<=5 then some (.exc x none) else none)
section
variable {X:Cx}{B:BB}{e:Expr}{es:List Expr}{pos:Pos}
theorem nH {x:Str}{np:Pos}{t:M (List D)} (hg:Gl X x) (hm:X.mg x=some (.ref (clOf X.K x))) (hx:xcIn X.K (clOf X.K x)=true) (hk:keepIn X.K (.ref (clOf X.K x))=true) (ha:AD X B (e::es) t)
  (aM:(x == ("__debug__":Str))=false:=by decide) (he:starEach (e::es) X.env=(false,eval e X.env)::starEach es X.env:=by rfl) (az:(backTo pos (starEach es X.env)).any (·.1)=false:=by rfl) :
  ED X B (.Call (.Name x np) (e::es) [] pos) (mkE x t):=by
 intro aa s U H Q I h
 obtain ⟨G,J,Γ,d,ac,r,e1,kk⟩:=h
 obtain ⟨ds,Γ1,e2,e3⟩:=i' e1
 obtain ⟨e4,rfl⟩:=mr e3
 obtain ⟨hl,rfl⟩:=my e4
 obtain ⟨tl,n,nm,qn,bs,hd,sn,sub,ab,col,dd,k0,k1,k2,k3,k5,mN,hC,hN,dz,T⟩:=uE I.ok.mod.kin hx
 refine wpAny_Call_Name_kw (nR I hg hm ?_ aM)
 refine callWith_K (h₀:=X.base) I.ok.mod.kin hk (thn (ha pos aa s U H (λvs H1=>∃ J1,Rep X.K B G J1 H1 U ac/\Grow G J J1/\IsA X.K J1 ds vs) I ⟨G,J,Γ,ds,_,r,e2,λvs H1 J1 r1 g1 h1=>⟨J1,r1,g1,h1⟩⟩) λus s1 ⟨vs,H1,I1,rv,J1,r1,g1,h1⟩=>⟨I1.kIn,?_⟩) he az
 obtain ⟨jf,g',d',t',ir⟩:=s1
 refine wpAny_call_exc_subT excBase_ValueError (T.keeps I1.bk) (I1.bk _ _ hC) (hN.keeps I1.bk) dz (λh' a hM=>?_) ?_
 ·have F:=rh I1.hok hM
  have I2:=I1.kept (t':=t') hM.keeps
  have I3:=DL.Inv.track I2 (x:=x) (h₁:=jf) (λb o z n=>I1.base.there b o z n) (λq hq=>⟨_,(I1.pin q hq).1⟩) F
  obtain ⟨_,_,_,_,_,_,_,free,_⟩:=id F
  exact ⟨.ref a,_,I3,rfl,kk _ _ _ (r1.alloc free _) (g1.trans (r1.growAlloc free _)) (Is.exc mq λk z=>nomatch z)⟩
 ·rw [nil_append,← rv.length,← h1.length]
  exact le_trans hl (by decide)
end
end DL
namespace DL
open PySem PySem.Spec PyProof.Rows L2 PySem.W
open PySem.Builtin PySem.Builtin.ObjectAttr
structure XNum (K:Frag) (C T:Addr):Prop where
 cs:findIn K (.ref C) "__setattr__"=some (some (.builtin "object.__setattr__"))
 cn:findIn K (.ref C) "number"=some none
 ob:mroIn K C (.type "object")=some true
 cd:∃ cd,clsIn K C=some cd/\cd.hasDict=true/\cd.mro=[.ref C,.ref T,.type "ValueError", .type "Exception", .type "BaseException", .type "object"]
section
variable {K:Frag}{prog:Program}{w:World}{A:Around}{E:Value->Shared->Prop}{x C T:Addr}{vs:Array Value}{sl:Array (Option Value)}{h:Heap}{g:Array GenState}{d:Drawn}{t:Nat}{os:OsState}
theorem zF {v:Value}{Q:Unit->Shared->Prop} (c:XNum K C T) (X:K.In h) (hx:h.get? x=some ⟨.ref C,none,.fields vs,sl⟩)
  (q:∀ h' tk dx,h.get? dx=none->dx≠x->h'.get? x=some ⟨.ref C,some dx,.fields vs,sl⟩->h'.Ns1 dx (λy=>if y = "number" then some v else none)->(∀ b o,b≠x->h.get? b=some o->h'.get? b=some o)->Q () ⟨h',g,d,tk,os⟩) :
  wpAny (model prog w) A (setAttr (.ref x) "number" v) Q E ⟨h,g,d,t,os⟩:=by
 have a1:=looks_findIn (M:=model prog w) X c.cs
 have a2:=looks_findIn (M:=model prog w) X c.cn
 have a3:=looks_mroIn (M:=model prog w) X c.ob
 obtain ⟨cd,b1,b2,b3⟩:=c.cd
 obtain ⟨oC,g1,g2⟩:∃ oC,h.get? C=some oC/\oC.data=.cls cd:=by
  unfold clsIn at b1
  split at b1
  ·rename_i ho
   cases b1
   exact ⟨_,X _ _ ho,rfl⟩
  ·cases b1
 have a4:=looks_clsIn (M:=model prog w) X b1
 have a5:Looks (model prog w) h (mroOf (.ref C)) cd.mro:=a4.andThen .now
 have a6:Looks (model prog w) h (typeOf (.ref x)) (.ref C):=(Looks.ld hx).andThen .now
 have f3:=store_ValueError.slot.bind (.ref x)
 have ps:=store_ValueError.passes (.ref x)
 unfold setAttr
 unfold callSpecial? specialOf
 repeat (any_goals (first | assumption | (with_reducible refine wpAny_loadPart_at hx ?_) | (with_reducible refine a1.at ?_) | wp_step))
 refine codeAny_call_builtin store_ValueError.slot.plain store_ValueError.entry ?_
 have k1:=store_ValueError.kind
 have k2:=store_ValueError.split
 have k3:=store_ValueError.args (.ref x) (.str "number" t) v
 simp only [checkBuiltinCall,k1,k2]
 refine wpAny_bind ?_
 unfold isInstance
 refine wpAny_bind (a6.at (a3.at ?_))
 repeat (any_goals (first | (rw [refuse_eq]) | (rw [b3,refuseLoop_ref,refuseLoop_ref,ps]) | (with_reducible refine wpAny_loadPart_at hx ?_) | (with_reducible refine a5.at ?_) | (with_reducible refine a2.at ?_) | wp_step | assumption))
 rw [g2]
 refine wpAny_pure ?_
 rw [b2,if_neg (by decide)]
 show wpAny _ _ (do
  let d ← alloc { cls:=Value.type "dict", data:=Data.dict #[] }
  update x λo=>{ cls:=o.cls,dict:=some d,data:=o.data,slots:=o.slots }
  dictMade (.ref C) x d) _ _ _
 have jg:(h.push { cls:=.type "dict", data:=.dict #[] }).get? x=some ⟨.ref C,none,.fields vs,sl⟩:=get?_push_of_some _ hx
 have nx:x≠h.objs.size:=ne_of_lt (lt_size hx)
 refine wpAny_bind (wpAny_alloc' (wpAny_bind (wpAny_update' jg ?_)))
 have kN:((h.push { cls:=.type "dict", data:=.dict #[] }).update x λo=>{ cls:=o.cls,dict:=some h.objs.size,data:=o.data,slots:=o.slots }).get? h.objs.size=some { cls:=.type "dict", data:=.dict #[] } :=
  (Heap.get?_update_ne _ _ _ _ nx.symm).trans (Heap.get?_push_at rfl rfl)
 refine wpAny_pure ?_
 show wpAny _ _ (storeInDict h.objs.size (.str "number" t) "number" v) _ _ _
 unfold storeInDict
 unfold newKeyGuard
 refine wpAny_bind (wpAny_pure (wpAny_bind (wpAny_nsSet1 (Heap.Ns1.of_empty ⟨_,#[],_,kN,rfl,λe he=>absurd he (by simp),λ_=>rfl⟩) λh' bW hs=>?_)))
 obtain ⟨oD,lQ,lR,kO,kP,kQ⟩:=bW.count (Within.cons "number" v Within.nil)
 refine wpAny_bind (wpAny_lookBehind kO (by rw [kP];exact pastItsLine_dict (le_trans kQ (by rw [length_cons,length_nil,sizeLine_eq];omega))) ?_)
 repeat (any_goals (first | wp_step | assumption))
 refine q h' _ h.objs.size (get?_none_of_le (le_refl _)) nx.symm ((hs.2 x nx).trans (Heap.get?_update_self _ jg rfl)) bW λb o ne e=>?_
 exact (hs.2 b (ne_of_lt (lt_size e))).trans ((Heap.get?_update_ne _ _ _ _ ne).trans (get?_push_of_some _ e))
end
section
variable {K:Frag}{prog:Program}{w:World}{A:Around}{E:Value->Shared->Prop}{x C T dx:Addr}{vs:Array Value}{sl:Array (Option Value)}{h:Heap}{g:Array GenState}{d:Drawn}{t:Nat}{os:OsState}
theorem Ae {eu:Bool}{u:Value}{mA:Str->Option Value}{Q:Value->Shared->Prop} (c:XCls K C) (cn:XNum K C T) (X:K.In h) (hx:h.get? x=some ⟨.ref C,some dx,.fields vs,sl⟩) (hn:h.Ns1 dx mA) (hu:mA "number"=some u) (hh:handedIn u=true) (q:Q u ⟨h,g,d,t+1,os⟩) :
  wpAny (model prog w) A (getAttr (.ref x) "number" eu) Q E ⟨h,g,d,t,os⟩:=by
 have a1:=looks_findIn (M:=model prog w) X c.ga
 have a2:=looks_findIn (M:=model prog w) X c.ng
 have a3:=looks_findIn (M:=model prog w) X cn.cn
 have a4:=looks_mroIn (M:=model prog w) X c.be
 have a6:Looks (model prog w) h (typeOf (.ref x)) (.ref C):=(Looks.ld hx).andThen .now
 obtain ⟨cd,b1,b2,b3⟩:=cn.cd
 obtain ⟨oC,g1,g2⟩:∃ oC,h.get? C=some oC/\oC.data=.cls cd:=by
  unfold clsIn at b1
  split at b1
  ·rename_i ho
   cases b1
   exact ⟨_,X _ _ ho,rfl⟩
  ·cases b1
 unfold getAttr
 unfold getAttrBy
 refine wpAny_bind (wpAny_mkText (wpAny_holding (wpAny_bind (a6.at (wpAny_bind (a1.at ?_))))))
 have no:(onTheHeap (Value.ref C)&&builtin "BaseException.__getattribute__" == builtin "object.__getattribute__")=false:=by
  rw [show (builtin "BaseException.__getattribute__" == builtin "object.__getattribute__")=false from by decide +kernel,Bool.and_false]
 dsimp only
 rw [no,if_neg Bool.false_ne_true]
 unfold getAttrByItsOwn
 have f3:=attrBase_ValueError.ga.bind (.ref x)
 have f4:(eu&&onTheHeap (builtin "BaseException.__getattribute__"))=false:=by cases eu<;>rfl
 repeat (any_goals (first | assumption | (with_reducible refine a2.at ?_) | (with_reducible refine wpAny_loadPart_at hx ?_)  | wp_step))
 show codeAny _ _ (.call _ ⟨[_,_],[]⟩) _ _
 refine codeAny_call_builtin attrBase_ValueError.ga.plain PySem.F.entry_bexc_ga ?_
 have k1:builtinKind "BaseException.__getattribute__"=some .slot:=by decide +kernel
 have k2:splitId "BaseException.__getattribute__"=some ("BaseException", "__getattribute__"):=by decide +kernel
 have k3:=PySem.F.args_bexc_ga (.ref x) (.str "number" t)
 simp only [checkBuiltinCall,k1,k2]
 refine wpAny_bind ?_
 unfold isInstance
 refine wpAny_bind (a6.at (a4.at ?_))
 repeat (any_goals (first | wp_step | assumption))
 repeat (any_goals (first | assumption | (with_reducible refine a3.at ?_) | (with_reducible refine wpAny_loadPart_at hx ?_)  | wp_step))
 rw [g2]
 refine wpAny_pure ?_
 rw [b2,if_neg (by decide)]
 refine wpAny_pure ?_
 unfold inDict
 refine wpAny_nsGet hn.ns ?_
 rw [hu]
 refine wpAny_bind (wpAny_rule (wpAny_pure (wpAny_pure ?_)))
 exact handed_on hh q
end
end DL
namespace DL
open PySem PySem.Spec PyProof.Rows L2 PySem.W
section
variable {prog:Program}{w:World}{A:Around}{E:Value->Shared->Prop}{h:Heap}{g:Array GenState}
variable {d:Drawn}{t:Nat}{os:OsState}
variable {nm qn:Str}{C N fI:Addr}{bs bm:List Value}{hdct:Bool}{sn:List Str}{sub:List Value}{ab:Bool}{col:Option Bool}{dd:Option Addr}{k0 k1 k2 k3 k5:Option Value}{mN:Str->Option Value}{us:List Value}{oI:Obj}
theorem Ah {Q:Fin->Shared->Prop} (T:OwnTail h VEs bm) (hC:h.get? C=some (excClassObj nm qn C N bs bm hdct sn sub ab col dd k0 k1 k2 k3 k5 "ValueError.__new__")) (hN:h.Ns N mN) (hi:mN "__init__"=some (.ref fI)) (hf:h.get? fI=some oI) (gZ:oI.cls=.type "function") (hz:us.length<=sizeLine)
  (q:∀ h' e,Heap.MadeExcOf h h' e (.ref C) us->wpAny (model prog w) A (call (.ref fI) (.ref e::us)) (λr s'=>r=.none/\Q (.done (.ret (.ref e))) s') E ⟨h',g,d,t,os⟩) :
  wpAny (model prog w) A (Builtin.«type.__call__» ⟨.ref C::us,[]⟩) Q E ⟨h,g,d,t,os⟩:=by
 have F:=excBase_ValueError
 repeat (first | (with_reducible refine wpAny_madeBy_exc hC ?_) | (with_reducible refine wpAny_loadPart_at hC ?_) | wp_step)
 refine codeAny_call_builtin_code (Code.quiet_builtin _ F.quiet) (wpAny_check_new_subT F T hC (codeAny_exc_new_subT F T hC ?_ hz))
 show wpAny _ _ _ _ _ _
 generalize ht:(h.push { cls:=.type "tuple", data:=.seq us.toArray })=h1
 have u1:∀ b o,h.get? b=some o->h1.get? b=some o:=λb o e=>by rw [← ht];exact get?_push_of_some _ e
 have s1:h1.objs.size=h.objs.size+1:=by rw [← ht];simp only [size_push]
 generalize h2e:h1.push { cls:=.ref C,data:=.fields #[.ref h.objs.size,.none,.none,.none,.bool false,.none] }=h2
 have u2:∀ b o,h.get? b=some o->h2.get? b=some o:=λb o e=>by rw [← h2e];exact get?_push_of_some _ (u1 b o e)
 have he:h2.get? (h.objs.size+1)=some { cls:=.ref C,data:=.fields #[.ref h.objs.size,.none,.none,.none,.bool false,.none] }:=by
  rw [← h2e,← s1];exact get?_push_size _ rfl
 have hm:Heap.MadeExcOf h h2 (h.objs.size+1) (.ref C) us:=⟨u2,get?_none_of_le (Nat.le_succ _),h.objs.size,he,get?_none_of_le (le_refl _),by
  rw [← h2e,← ht];exact get?_push_of_some _ (Heap.get?_push_at rfl rfl)⟩
 have me:(Value.ref C::bm).contains (.ref C)=true:=by simp
 unfold isInstance
 repeat (first | (with_reducible refine wpAny_loadPart_at he ?_) | (with_reducible refine wpAny_isSubtype_exc (u2 _ _ hC) ?_;rw [me]) | wp_step)
 refine wpAny_typeLookup_tail (u2 _ _ hC) (hN.keeps u2) (T.keeps u2) F.mroIs F.init.lookup ?_
 rw [hi]
 refine wpAny_holding (wpAny_bind (show wpAny _ _ (bindSpecial _ _) _ _ _ from ?_))
 unfold bindSpecial
 refine wpAny_bind (wpAny_typeOf (T := "function") ⟨_,u2 _ _ hf,gZ⟩ ?_)
 rw [if_pos (by decide)]
 refine wpAny_pure (wpAny_bind (wpAny_mono (q h2 _ hm) (λr s' hr=>?_) λ_ _ z=>z))
 obtain ⟨rfl,hr⟩:=hr
 wp_walk
 exact hr
theorem xu {Q:Value->Shared->Prop} (T:OwnTail h VEs bm) (hC:h.get? C=some (excClassObj nm qn C N bs bm hdct sn sub ab col dd k0 k1 k2 k3 k5 "ValueError.__new__")) (hN:h.Ns N mN) (hi:mN "__init__"=some (.ref fI)) (hf:h.get? fI=some oI) (gZ:oI.cls=.type "function") (hz:us.length<=sizeLine)
  (q:∀ h' e,Heap.MadeExcOf h h' e (.ref C) us->wpAny (model prog w) (A.under (.builtin "type.__call__" ⟨.ref C::us,[]⟩)) (call (.ref fI) (.ref e::us)) (λr s'=>r=.none/\Q (.ref e) s') E ⟨h',g,d,t,os⟩) :
  wpAny (model prog w) A (call (.ref C) us) Q E ⟨h,g,d,t,os⟩:=by
 have f1:=tc_lookup
 have f2:=tc_bind (.ref C)
 have lS:(⟨h,g,d,t,os⟩:Shared).TypeIs (.ref C) "type":=⟨_,hC,rfl⟩
 refine wpAny_call (codeAny_of_tree (show wpAny _ _ (callAny (.ref C) _) _ _ _ from ?_))
 repeat (any_goals (first | (with_reducible refine wpAny_loadPart_at hC ?_) | assumption | wp_step))
 refine ⟨rfl,codeAny_call_builtin_at (Code.quiet_builtin _ (by decide +kernel)) entry_typeCall (wpAny_check_type_call_sub hC (Ah T hC hN hi hf gZ hz q))⟩
end
theorem zH {K:Frag}{h:Heap}{N:Addr}{m:Str->Option Value}{n:Str}{v:Value} (X:K.In h) (G:h.Ns N m) (e:nsIn K N n=some (some v)):m n=some v:=by
 obtain ⟨o,es,ep,g1,g2,_,g3⟩:=G
 unfold nsIn at e
 split at e
 ·rename_i ho
  have z:=(X _ _ ho).symm.trans g1
  cases z
  cases g2
  split at e
  ·rename_i en he
   cases e
   have fd:nsFind es n=some en.val:=by
    unfold nsFind findBy
    rw [← Array.find?_toList,he];rfl
   exact (g3 n).symm.trans fd
  ·split at e<;>cases e
 ·cases e
noncomputable def excInI (K:Frag) (C fI:Addr):Bool:=match K.lookup C with
 | some ⟨.type "type", _,.cls c,ss⟩=>(match c.mro,ss.toList with
  | .ref D::bm,[_,_,_,_,some (.builtin n),_]=>D == C&&n == "ValueError.__new__"&&!c.hasDel&&tailIn K VEs bm&&nsOkIn K c.ns&&nsIn K c.ns "__init__" == some (some (.ref fI))
  | _,_=>false)
 | _=>false
theorem v7 {K:Frag}{h:Heap}{C fI:Addr} (X:K.In h) (q:excInI K C fI=true) :
  ∃ t n nm qn bs hd sn sub ab col dd k0 k1 k2 k3 k5 mN,h.get? C=some (excClassObj nm qn C n bs t hd sn sub ab col dd k0 k1 k2 k3 k5 "ValueError.__new__")/\h.Ns n mN/\mN "__init__"=some (.ref fI)/\OwnTail h VEs t:=by
 unfold excInI at q
 split at q
 case h_2=>cases q
 case h_1 dd cd sl ho =>
  split at q
  case h_2=>cases q
  case h_1 c1 t k0 k1 k2 k3 n k5 e1 e2 =>
   simp only [beq_iff_eq,and_eq_true,not_eq_true'] at q
   obtain ⟨⟨⟨⟨⟨z1,z2⟩,z3⟩,z4⟩,z5⟩,z6⟩:=q
   subst z1 z2
   obtain ⟨a1,a2,a3,a4,a5,a6,a7,a8,a9,b1,b2⟩:=cd
   have e3:sl=#[k0,k1,k2,k3,some (.builtin "ValueError.__new__"),k5]:=by rw [← e2]
   dsimp only at e1 z3 z5 z6
   subst e1 z3 e3
   obtain ⟨m,cR⟩:∃ m,h.Ns a4 m:=⟨_,.of_isNs (isNs_of_in X z5)⟩
   refine ⟨t,a4,a1,a5,a2,a6,a7,a8,a9,b1,dd,k0,k1,k2,k3,k5,m,X _ _ ho,cR,?_,tail_of_in X z4⟩
   exact zH X cR z6
section
variable {prog:Program}{w:World}{A:Around}{E:Value->Shared->Prop}{h:Heap}{g:Array GenState}
variable {d:Drawn}{t:Nat}{os:OsState}
variable {nm qn:Str}{C N fI e t0:Addr}{bs bm:List Value}{hdct:Bool}{sn:List Str}{sub:List Value}{ab:Bool}{col:Option Bool}{dd:Option Addr}{k0 k1 k2 k3 k5:Option Value}{u:Value}{sl:Array (Option Value)}
theorem yP {Q:Value->Shared->Prop} (T:OwnTail h VEs bm) (hC:h.get? C=some (excClassObj nm qn C N bs bm hdct sn sub ab col dd k0 k1 k2 k3 k5 "ValueError.__new__")) (he:h.get? e=some ⟨.ref C,none,.fields #[.ref t0,.none,.none,.none,.bool false,.none],sl⟩)
  (q:∀ h' tp,h'.get? e=some ⟨.ref C,none,.fields #[.ref tp,.none,.none,.none,.bool false,.none],sl⟩->(∀ b o,b≠e->h.get? b=some o->h'.get? b=some o)->Q .none ⟨h',g,d,t,os⟩) :
  wpAny (model prog w) A (call (.builtin "ValueError.__init__") [.ref e,u]) Q E ⟨h,g,d,t,os⟩:=by
 have F:=excBase_ValueError
 refine wpAny_call (codeAny_call_builtin F.init.plain F.initEntry (wpAny_check_init_subT F T hC he rfl ?_))
 wp_walk
 refine q _ h.objs.size ?_ λb o ne z=>?_
 ·rw [Heap.get?_update_self _ (get?_push_of_some _ he) rfl]
  rfl
 ·rw [get?_update_other _ _ (symm ne)]
  exact get?_push_of_some _ z
end
section
variable {X:Cx}{B:BB}{a b:Expr}{ga gb:M D}{pos:Pos}
def few9 (i:Int):Prop:=i.natAbs < 10 ^ 99
theorem rR {i:Int} (h:few9 i):(txt i).length<=100:=by
 have:=int_text_length_le10 (a:=i) (k:=99) (by decide) h
 have e:(txt i).length=(toString i).length:=by unfold txt;rw [PySem.ofString_length]
 omega
theorem log9 {i:Int} (h:few9 i):i.natAbs.log2 < 1920:=by
 by_cases z:i.natAbs=0
 ·rw [z];decide
 ·exact (Nat.log2_lt z).mpr (Nat.lt_trans h (by decide))
noncomputable def tF1 (x:Str) (ta:TE):TE:=λU H Q=>ta U H λv H1=>∃ m:Int,v=.int m/\few9 m/\Q (.str (x++txt m)) H1
theorem sS {x:Str}{j:Nat}{p1 p2:Pos}{ta:TE} (hx:x.length<=100) (ha:PE X a ta) :
  PE X (.JoinedStr [.Constant (.str x) j p1,.FormattedValue a (-1) none p2] pos) (tF1 x ta):=by
 intro aa s U H Q I h
 have line:1000<=sizeLine:=by rw [sizeLine_eq];decide
 refine wpAny_JoinedStr (show Joins _ _ _ [eval (.Constant (.str x) j p1) X.env,eval (.FormattedValue a (-1) none p2) X.env] _ _ _ from ?_)
 refine Calls.Constant_str ⟨x,_,rfl,by rw [qE];omega,?_⟩
 rw [qE]
 refine wpAny_FormattedValue_plain (thn (ha aa _ U H _ (I.tok _) h) λv s1 ⟨m',H1,I1,r1,m,e1,hm,q1⟩=>?_)
 subst e1
 obtain ⟨t,rfl⟩:=r1
 have lm:=rR hm
 refine wpAny_formatField_int (log9 hm) ⟨txt m,_,rfl,?_,?_⟩
 ·rw [strLen_append];omega
 ·exact ⟨by rw [strLen_append];omega,⟨.str _,H1,(I1.tok _).tok _,⟨_,rfl⟩,q1⟩⟩
noncomputable def tF2 (x y:Str) (ta tb:TE):TE:=λU H Q=>ta U H λv H1=>∃ m:Int,v=.int m/\few9 m/\tb U H1 λu H2=>∃ n:Int,u=.int n/\few9 n/\Q (.str (x++txt m++y++txt n)) H2
theorem xX {x y:Str}{j i:Nat}{p1 p2 p3 p4:Pos}{ta tb:TE} (hx:x.length<=100) (hy:y.length<=100) (ha:PE X a ta) (hb:PE X b tb) :
  PE X (.JoinedStr [.Constant (.str x) j p1,.FormattedValue a (-1) none p2,.Constant (.str y) i p3,.FormattedValue b (-1) none p4] pos) (tF2 x y ta tb):=by
 intro aa s U H Q I h
 have line:1000<=sizeLine:=by rw [sizeLine_eq];decide
 refine wpAny_JoinedStr (show Joins _ _ _ [eval (.Constant (.str x) j p1) X.env,eval (.FormattedValue a (-1) none p2) X.env,eval (.Constant (.str y) i p3) X.env,eval (.FormattedValue b (-1) none p4) X.env] _ _ _ from ?_)
 refine Calls.Constant_str ⟨x,_,rfl,by rw [qE];omega,?_⟩
 rw [qE]
 refine wpAny_FormattedValue_plain (thn (ha aa _ U H _ (I.tok _) h) λv s1 ⟨m',H1,I1,r1,m,e1,hm,q1⟩=>?_)
 subst e1
 obtain ⟨t,rfl⟩:=r1
 have lm:=rR hm
 refine wpAny_formatField_int (log9 hm) ⟨txt m,_,rfl,?_,?_⟩
 ·rw [strLen_append];omega
 refine Calls.Constant_str ⟨y,_,rfl,by rw [strLen_append,strLen_append];omega,?_⟩
 refine wpAny_FormattedValue_plain (thn (hb aa _ U H1 _ (((I1.tok _).tok _).tok _) q1) λv s2 ⟨n',H2,I2,r2,n,e2,hn,q2⟩=>?_)
 subst e2
 obtain ⟨t,rfl⟩:=r2
 have ln:=rR hn
 refine wpAny_formatField_int (log9 hn) ⟨txt n,_,rfl,?_,?_⟩
 ·rw [strLen_append,strLen_append,strLen_append];omega
 ·exact ⟨by rw [strLen_append,strLen_append,strLen_append];omega,⟨.str _,H2,(I2.tok _).tok _,⟨_,rfl⟩,q2⟩⟩
instance {i:Int}:Decidable (few9 i):=by unfold few9;infer_instance
noncomputable def f1F (x:Str) (a:D):Option D:=match a with
 | .int i=>if few9 i then some (.str (x++txt i)) else none
 | _=>none
noncomputable def f2F (x y:Str) (a b:D):Option D:=match a,b with
 | .int i,.int j=>if few9 i/\few9 j then some (.str (x++txt i++y++txt j)) else none
 | _,_=>none
theorem BP {x:Str}{j:Nat}{p1 p2:Pos} (hx:x.length<=100) (ha:ED X B a ga):ED X B (.JoinedStr [.Constant (.str x) j p1,.FormattedValue a (-1) none p2] pos) (un1 (f1F x) ga):=PE.imp (sS hx ha) λU H Q q=>by
 obtain ⟨G,I,Γ,d,ac,r,e1,k⟩:=q
 obtain ⟨d1,Γ1,e2,e3⟩:=i' e1
 obtain ⟨e4,rfl⟩:=mr e3
 unfold f1F at e4
 split at e4
 ·rename_i m
  obtain ⟨ok,rfl⟩:=my e4
  exact ⟨G,I,Γ,_,_,r,e2,λv H1 I1 r1 g1 h1=>⟨m,mn h1,ok,k _ _ _ r1 g1 (Is.str _)⟩⟩
 ·cases e4
theorem ya {x y:Str}{j i:Nat}{p1 p2 p3 p4:Pos} (hx:x.length<=100) (hy:y.length<=100) (ha:ED X B a ga) (hb:ED X B b gb):ED X B (.JoinedStr [.Constant (.str x) j p1,.FormattedValue a (-1) none p2,.Constant (.str y) i p3,.FormattedValue b (-1) none p4] pos) (op2 (f2F x y) ga gb):=PE.imp (xX hx hy ha hb) λU H Q q=>by
 obtain ⟨G,I,Γ,d,ac,r,e1,k⟩:=q
 obtain ⟨d1,Γ1,e2,e3⟩:=i' e1
 obtain ⟨d2,ai,e4,e5⟩:=i' e3
 obtain ⟨e6,rfl⟩:=mr e5
 unfold f2F at e6
 split at e6
 ·rename_i m n
  obtain ⟨ok,rfl⟩:=my e6
  exact ⟨G,I,Γ,_,Γ1,r,e2,λv H1 I1 r1 g1 h1=>⟨m,mn h1,ok.1,G,I1,Γ1,_,_,r1,e4,λu H2 I2 r2 g2 h2=>⟨n,mn h2,ok.2,k _ _ _ r2 (g1.trans g2) (Is.str _)⟩⟩⟩
 ·cases e6
end
noncomputable def RawE (K:Frag) (e:Addr) (x:Str):HO:=.ext λh=>∃ t0 sl,h.get? e=some ⟨.ref (clOf K x),none,.fields #[.ref t0,.none,.none,.none,.bool false,.none],sl⟩
theorem uY {P:Program}{w:World}{H:Hp}{h:Heap}{K:Frag}{e t0:Addr}{x:Str}{sl:Array (Option Value)} (q:h.get? e=some ⟨.ref (clOf K x),none,.fields #[.ref t0,.none,.none,.none,.bool false,.none],sl⟩):ObjOk P w H h e (RawE K e x) :=
 ⟨⟨t0,sl,q⟩,⟨_,q⟩,λh1 h2 ⟨a,b,z⟩ k=>⟨a,b,k _ z⟩⟩
theorem zk {H:Hp}{a:Addr}{o:HO} (h:H a=some o):upd H a o=H:=by
 funext b
 by_cases e:b=a
 ·subst e;rw [mq,h]
 ·rw [ma e]
structure XLog (K:Frag) (fI:Addr):Prop where
 obj:excInI K (clOf K "NoLog") fI=true
 num:XNum K (clOf K "NoLog") (clOf K "RoofError")
 kp:keepIn K (.ref (clOf K "NoLog"))=true
 fn:typeIn K (.ref fI)=some (.type "function")
 sp:specialIn K (.ref (clOf K "RoofError")) "__getattribute__"=some (some (.builtin "type.__getattribute__"))
 rd:readsIn K (clOf K "RoofError") (.type "type")=true
 fc:findCls K (.ref (clOf K "RoofError")) (.type "type") "__init__"=some (.val (.builtin "ValueError.__init__"))
section
variable {X:Cx}{aa:List (Addr×Obj)}{U:L2.St}{H:Hp}{s:Shared}
theorem Inv.track2 {kR:L2.St}{H0:Hp}{s0:Shared}{a:Addr}{o:HO} (I:Inv X aa U H s) (I0:Inv X aa kR H0 s0) (e5:H a=none) (e6:s0.heap.get? a=none) (new:ObjOk X.prog X.w (upd H a o) s.heap a o):Inv X aa U (upd H a o) s:=by
 have up:=mG e5 o
 have no:∀ b q,s0.heap.get? b=some q->b≠a:=λb q z y=>by rw [y,e6] at z;cases z
 refine ⟨I.ok,I.os,I.bare,⟨I.base.keep,I.base.slot,λb q z n hx=>?_,I.base.there,λb xs q=>up _ _ (I.base.tups b xs q),λb o u q=>up _ _ (I.base.frzs b o u q),λb ps q=>let ⟨m,z⟩:=I.base.tbls b ps q;⟨m,up _ _ z⟩⟩,I.loc,I.cell,?_,λy c hy=>?_,λp hp=>?_,λb u q=>?_,I.len⟩
 ·obtain ⟨q',k⟩:=I0.base.there b q z hx
  rw [ma (no b q' k)]
  exact I.base.free b q z n hx
 ·obtain ⟨_,⟨o',es,ep,e',_⟩,_⟩:=I0.loc
  rw [ma (no _ _ e')]
  exact I.free
 ·obtain ⟨v,o',e',_⟩:=I0.cell y c hy
  rw [ma (no _ _ e')]
  exact I.freeC y c hy
 ·obtain ⟨k1,k2,k3,k4,k5⟩:=I.pin p hp
  refine ⟨k1,?_,k3,k4,k5⟩
  rw [ma (no _ _ (I0.pin p hp).1)]
  exact k2
 ·by_cases hb:b=a
  ·subst hb
   rw [mq] at q
   cases q
   exact new
  ·rw [ma hb] at q
   exact (I.hok b u q).stay (λc v _ z=>z) (λc z=>up _ _ z) (λc xs z=>up _ _ z)
variable {fI:Addr}
noncomputable def tInit (K:Frag) (t:TA):TE:=λU H Q=>t U H λvs H1=>∃ e u,vs=[.ref e,u]/\H1 e=some (RawE K e "NoLog")/\Q .non H1
theorem AN {a1 a2:Expr}{p0 aA aj:Pos}{t:TA}{pl:Sem Bool} (L:XLog X.K fI) (hg:Gl X "RoofError") (hm:X.mg "RoofError"=some (.ref (clOf X.K "RoofError"))) (ha:PA X [a1,a2] t)
  (ht:eval (.Call (.Attribute (.Name "RoofError" p0) "__init__" aA) [a1,a2] [] aj) X.env=(do
   let ov ← eval (.Name "RoofError" p0) X.env
   standAt aA.atName
   let (f,first) ← holding [ov] (getMethod ov "__init__" pl)
   callWith aj f first (backTo aj (starEach [a1,a2] X.env)) (backToKw aj (keywordEach [] X.env))):=by rfl)
  (hs:starEach [a1,a2] X.env=(false,eval a1 X.env)::starEach [a2] X.env:=by rfl) (az:(backTo aj (starEach [a2] X.env)).any (·.1)=false:=by rfl) :
  PE X (.Call (.Attribute (.Name "RoofError" p0) "__init__" aA) [a1,a2] [] aj) (tInit X.K t):=by
 intro aa s U H Q I h
 refine methodCall_KW (pl:=pl) (nR I hg hm ?_) ht
 refine method_cls I.kIn L.sp (cls_value I.kIn L.rd L.fc (by decide +kernel) ?_)
 have hA:=ha aj aa _ U H _ (I.tok (s.toks+1)) h
 show wpAny _ _ (callWith aj (.builtin "ValueError.__init__") [] _ []) _ _ _
 rw [hs] at hA ⊢
 refine Calls.callWith_builtin (by show (false||(backTo aj (starEach [a2] X.env)).any (·.1))=false;rw [az]<;>rfl) (Calls.evalArgs_plain ?_)
 refine thn hA λus s2 ⟨vs,H2,I2,r2,q2⟩=>?_
 obtain ⟨e,u,rfl,h1,q⟩:=q2
 cases r2 with
 | cons re r2 =>
  cases r2 with
  | cons ru r2 =>
   cases r2
   cases re
   obtain ⟨⟨t0,sl,z⟩,_⟩:=I2.hok e _ h1
   obtain ⟨tl,n,nm,qn,bs,hd,sn,sub,ab,col,dd,k0,k1,k2,k3,k5,mN,hC,hN,dz,T⟩:=v7 I2.kIn L.obj
   obtain ⟨hh,g,dr,tk,os⟩:=s2
   refine yP T hC z λh' tp w1 w2=>?_
   have I3:=I2.write (t':=tk) (x:=e) (e:=e) (o:=RawE X.K e "NoLog") (by rw [h1];exact trivial) (.inl rfl) (λb o ne q=>w2 b o ne q) ⟨_,w1⟩ (uY w1)
   rw [zk h1] at I3
   exact ⟨.non,H2,I3,rfl,q⟩
noncomputable def tNum (K:Frag) (ta tv:TE):TS:=λD U H=>tv U H λy H1=>ta U H1 λx H2=>∃ e k,x=.ref e/\y=.int k/\H2 e=some (RawE K e "NoLog")/\∀ dx,H2 dx=none->dx≠e->D.nx U (upd (upd H2 e (ExO K e "NoLog" (some dx))) dx (.xd [("number", .int k)]))
theorem A2 {o value:Expr}{aO pos:Pos}{ta tv:TE} (L:XLog X.K fI) (ha:PE X o ta) (hv:PE X value tv) (hs:swapsWith value (some (.Attribute o "number" aO)) pos.line X.env=pure false:=by rfl):PS X (.Assign [.Attribute o "number" aO] value pos) (tNum X.K ta tv):=by
 intro aa s U H D I h
 refine plainObj_wpAny_Assign_Attribute (thn (hv aa s U H _ I h) λu s1 ⟨y,H1,I1,ry,q⟩=>thn (ha aa s1 U H1 _ I1 q) λov s2 ⟨x,H2,I2,rx,e,k,ex,ey,h2,q2⟩=>?_) hs
 subst ex ey
 cases (show ov=Value.ref e from rx)
 obtain ⟨lU,rfl⟩:=ry
 obtain ⟨⟨t0,sl,z⟩,_⟩:=I2.hok e _ h2
 obtain ⟨hh,g,dr,tk,os⟩:=s2
 refine zF L.num I2.kIn z λh' kS dx w1 w2 w3 w4 w5=>?_
 have free:H2 dx=none:=by
  cases zz:H2 dx with
  | none=>rfl
  | some o'=>obtain ⟨_,qq⟩:=objThere (I2.hok _ _ zz);rw [w1] at qq;cases qq
 have I3:=I2.write (t':=kS) (x:=e) (e:=e) (o:=ExO X.K e "NoLog" (some dx)) (by rw [h2];exact trivial) (.inl rfl) (λb o ne q=>w5 b o ne q) ⟨_,w3⟩ (vh w3 rfl rfl λlV z=>by cases z;rfl)
 have I4:=DL.Inv.track2 I3 (a:=dx) (o:=.xd [("number", .int k)]) I2 (by rw [ma w2];exact free) w1 ⟨_,w4,λf=>by
  by_cases hf:f = "number"
  ·subst hf
   rw [if_pos rfl]
   show RelO (List.lookup ("number":Str) [(("number":Str),V.int k)]) _
   have:List.lookup ("number":Str) [(("number":Str),V.int k)]=some (.int k):=by simp [List.lookup]
   rw [this]
   exact ⟨_,rfl⟩
  ·rw [if_neg hf]
   have:List.lookup f [(("number":Str),V.int k)]=none:=by
    have hb:(f == ("number":Str))=false:=beq_eq_false_iff_ne.mpr hf
    simp only [List.lookup,hb]
   rw [this]
   exact trivial⟩
 exact ⟨U,_,I4,q2 dx free w2⟩
end
noncomputable def spI (K:Frag):Sp:=λvs H Q _=>∃ e k,vs=[.ref e,.int k]/\few9 k/\H e=some (RawE K e "NoLog")/\∀ dx,H dx=none->dx≠e->Q .non (upd (upd H e (ExO K e "NoLog" (some dx))) dx (.xd [("number", .int k)]))
section
variable {X:Cx}{B:BB}{e:Expr}{ga:M D}{pos:Pos}{fI:Addr}{fd:FuncData}{k kr:Nat}
noncomputable def mkLF (d:D):Option D:=match d with
 | .int i=>if few9 i then some (.exc "NoLog" (some i)) else none
 | _=>none
theorem yy {np:Pos} (L:XLog X.K fI) (F:FnOk X.prog X.w X.K X.mg X.base CX0 k fI fd ["self", "number"] (spI X.K)) (hb:Binds X.K fd ["self", "number"] []) (hr:Room kr X.A) (hm:X.mg "NoLog"=some (.ref (clOf X.K "NoLog"))) (ha:ED X B e ga) (hk:k+1<=kr:=by decide) (hg:Gl X "NoLog":=by exact rfl)
  (he:starEach [e] X.env=(false,eval e X.env)::starEach [] X.env:=by rfl) (az:(backTo pos (starEach [] X.env)).any (·.1)=false:=by rfl) :
  ED X B (.Call (.Name "NoLog" np) [e] [] pos) (un1 mkLF ga):=by
 intro aa s U H Q I h
 obtain ⟨G,J,Γ,d,ac,r,e1,kk⟩:=h
 obtain ⟨d1,Γ1,e2,e3⟩:=i' e1
 obtain ⟨e4,rfl⟩:=mr e3
 unfold mkLF at e4
 split at e4
 case h_2=>cases e4
 case h_1 n =>
 obtain ⟨few,rfl⟩:=my e4
 have hA:=mX ha (nW (X:=X)) he
 refine wpAny_Call_Name_kw (nR I hg hm ?_)
 refine callWith_K (h₀:=X.base) I.ok.mod.kin L.kp (thn (hA pos aa s U H (λvs H1=>∃ J1,vs=[.int n]/\Rep X.K B G J1 H1 U ac/\Grow G J J1) I ⟨G,J,Γ,_,_,r,e2,λv H1 J1 r1 g1 h1=>⟨J1,by rw [mn h1],r1,g1⟩⟩) λus s1 ⟨vs,H1,I1,rv,J1,ev,r1,g1⟩=>⟨I1.kIn,?_⟩) he az
 subst ev
 rw [nil_append]
 obtain ⟨tl,n',nm,qn,bs,hd,sn,sub,ab,col,dd,k0,k1,k2,k3,k5,mN,hC,hN,dz,T⟩:=v7 I1.kIn L.obj
 obtain ⟨oI,kT,kU⟩:∃ oI,s1.heap.get? fI=some oI/\oI.cls=.type "function":=by
  obtain ⟨oI,z1,z2⟩:=map_eq_some_iff.mp (show (X.K.lookup fI).map (·.cls)=_ from L.fn)
  exact ⟨oI,I1.kIn _ _ z1,z2⟩
 have fK:us.length=1:=by rw [← rv.length];rfl
 have eh:=(hr.mono hk).make (clOf X.K "NoLog") us []
 obtain ⟨h1,g,dr,tk,os⟩:=s1
 refine xu T hC hN dz kT kU (by rw [fK];decide) λh' a hM=>?_
 have F1:=rh I1.hok hM
 obtain ⟨_,_,_,_,_,_,_,free,_⟩:=id F1
 obtain ⟨t0,w1,_,_⟩:=hM.there
 have I3:=DL.Inv.track2 (I1.kept (t':=tk) hM.keeps) (a:=a) (o:=RawE X.K a "NoLog") I1 free hM.new (uY w1)
 have sp:spI X.K [.ref a,.int n] (upd H1 a (RawE X.K a "NoLog")) (λv H2=>v=.non/\∃ dx,H1 dx=none/\dx≠a/\H2=upd (upd H1 a (ExO X.K a "NoLog" (some dx))) dx (.xd [("number", .int n)])) E0:=⟨a,n,rfl,few,mq,λdx z ne=>⟨rfl,dx,by rw [ma ne] at z;exact z,ne,by rw [A9]⟩⟩
 have bb:=hb _ (Value.ref a::us) I3.kIn (by rw [append_nil,length_cons,fK];rfl)
 rw [append_nil] at bb
 refine wpAny_call (codeAny_mono (F.run _ X.stack _ _ ⟨Value.ref a::us,[]⟩ (Value.ref a::us) [.ref a,.int n] _ E0 eh (I3.env0.make (clOf X.K "NoLog") us []) bb (.cons rfl rv) sp) λrr s' hq=>?_)
 cases rr with
 | error ex=>exact hq.elim
 | ok fl =>
  cases fl with
  | ret u =>
   obtain ⟨v,H',I4,kW,ev,dx,z1,z2,rfl⟩:=I3.after hq
   subst ev
   refine ⟨kW,⟨.ref a,_,I4,rfl,?_⟩⟩
   have ez:(upd H1 a (ExO X.K a "NoLog" (some dx))) dx=none:=by rw [ma z2];exact z1
   have rA:=r1.alloc free (ExO X.K a "NoLog" (some dx))
   refine kk _ _ _ (rA.alloc ez _) (g1.trans ((r1.growAlloc free _).trans (rA.growAlloc ez _))) (Is.exc (d:=some dx) (by rw [ma (symm z2),mq]) λk z=>?_)
   cases z
   exact ⟨dx,rfl,mq⟩
  | next=>exact hq.elim
  | brk=>exact hq.elim
  | cont=>exact hq.elim
noncomputable def numF (d:D):Option D:=match d with
 | .exc x (some k)=>if x = "NoLog" then some (.int k) else none
 | _=>none
theorem wW (hX:xTab X.K=true) (L:XLog X.K fI) (ha:ED X B e ga) (hb:attributeBase e "number" X.env (eval e X.env)=eval e X.env:=by rfl):ED X B (.Attribute e "number" pos) (un1 numF ga):=by
 intro aa s U H Q I h
 obtain ⟨G,J,Γ,d,ac,r,e1,kk⟩:=h
 obtain ⟨d1,Γ1,e2,e3⟩:=i' e1
 obtain ⟨e4,rfl⟩:=mr e3
 unfold numF at e4
 split at e4
 case h_2=>cases e4
 case h_1 x n =>
 obtain ⟨rfl,rfl⟩:=my e4
 refine w6 hb (thn (ha aa s U H (λv H1=>∃ J1,Rep X.K B G J1 H1 U ac/\Grow G J J1/\Is X.K J1 (.exc "NoLog" (some n)) v) I ⟨G,J,Γ,_,_,r,e2,λv H1 J1 r1 g1 h1=>⟨J1,r1,g1,h1⟩⟩) λu s1 ⟨v,H1,I1,rv,J1,r1,g1,h1⟩=>?_)
 obtain ⟨a,d,rfl,z1,z2⟩:=qy h1
 cases (show u=Value.ref a from rv)
 obtain ⟨dx,rfl,z3⟩:=z2 n rfl
 obtain ⟨o,vs,y1,y2,y3,y4⟩:=vy I1 (r1.iH _ _ z1)
 obtain ⟨mA,x1,x2⟩:=I1.hok dx _ (r1.iH _ _ z3)
 obtain ⟨oc,od,kq,bP⟩:=o
 cases y2;cases y3
 have y5:=y4 dx rfl
 cases y5
 have lk:List.lookup ("number":Str) [(("number":Str),V.int n)]=some (.int n):=by simp [List.lookup]
 have x3:=x2 "number"
 rw [lk] at x3
 obtain ⟨w,hw,dM⟩:=RelO.some_of x3
 obtain ⟨jf,g,dr,tk,os⟩:=s1
 obtain ⟨tw,rfl⟩:=id dM
 exact Ae (tQ hX (by decide)) L.num I1.kIn y1 x1 hw rfl ⟨.int n,H1,I1.tok _,⟨_,rfl⟩,kk _ _ _ r1 g1 (Is.int _)⟩
end
noncomputable def nine:List Str:=["NoKin", "NoHouse", "NoRoad", "Ring", "NoHold", "NoLetter", "NoStep", "NoText", "NoRow"]
noncomputable def xAll (K:Frag):Bool:=xTab K&&xTop K&&(yNames.all λx=>nsIn K mainGlobals x == some (some (.ref (clOf K x))))&&(nine.all λx=>xcIn K (clOf K x))&&nine.all λx=>keepIn K (.ref (clOf K x))
structure Exs (K:Frag) (mg:Str->Option Value):Prop where
 tab:xTab K=true
 top:xTop K=true
 m:∀ x,yNames.contains x=true->mg x=some (.ref (clOf K x))
 xc:∀ x,nine.contains x=true->xcIn K (clOf K x)=true
 kp:∀ x,nine.contains x=true->keepIn K (.ref (clOf K x))=true
theorem By {K:Frag}{h:Heap}{mg:Str->Option Value} (X:K.In h) (G:h.Ns mainGlobals mg) (b:xAll K=true):Exs K mg:=by
 unfold xAll at b
 simp only [and_eq_true] at b
 obtain ⟨⟨⟨⟨b1,b2⟩,b3⟩,b4⟩,b5⟩:=b
 exact ⟨b1,b2,λx hx=>mg_of X G (beq_iff_eq.mp (all_eq_true.mp b3 x (by simpa using hx))),λx hx=>all_eq_true.mp b4 x (by simpa using hx),λx hx=>all_eq_true.mp b5 x (by simpa using hx)⟩
noncomputable def xlogB (K:Frag) (fI:Addr):Bool:=excInI K (clOf K "NoLog") fI&&(findIn K (.ref (clOf K "NoLog")) "__setattr__" == some (some (.builtin "object.__setattr__")))&&(findIn K (.ref (clOf K "NoLog")) "number" == some none)&&(mroIn K (clOf K "NoLog") (.type "object") == some true) &&
 (match clsIn K (clOf K "NoLog") with | some cd=>cd.hasDict&&cd.mro == [.ref (clOf K "NoLog"),.ref (clOf K "RoofError"),.type "ValueError", .type "Exception", .type "BaseException", .type "object"] | none=>false) &&
 keepIn K (.ref (clOf K "NoLog"))&&(typeIn K (.ref fI) == some (.type "function"))&&(specialIn K (.ref (clOf K "RoofError")) "__getattribute__" == some (some (.builtin "type.__getattribute__")))&&readsIn K (clOf K "RoofError") (.type "type") &&
 (match findCls K (.ref (clOf K "RoofError")) (.type "type") "__init__" with | some (.val (.builtin i))=>i == "ValueError.__init__" | _=>false)
theorem xM {K:Frag}{fI:Addr} (b:xlogB K fI=true):XLog K fI:=by
 unfold xlogB at b
 simp only [and_eq_true,beq_iff_eq] at b
 obtain ⟨⟨⟨⟨⟨⟨⟨⟨⟨b1,b2⟩,b3⟩,b4⟩,b5⟩,b6⟩,b7⟩,b8⟩,b9⟩,g9⟩:=b
 refine ⟨b1,⟨b2,b3,b4,?_⟩,b6,b7,b8,b9,?_⟩
 ·split at b5
  ·rename_i cd bh
   simp only [and_eq_true,beq_iff_eq] at b5
   exact ⟨cd,bh,b5.1,b5.2⟩
  ·cases b5
 ·split at g9
  ·rename_i i hi
   rw [hi,beq_iff_eq.mp g9]
  ·cases g9
noncomputable def clsDef (s:Stmt) (i:Nat):Stmt:=match s with
 | .ClassDef _ _ _ b _ _ _ _ _ _ _=>b.getD i (.Pass ⟨0,0,0,0⟩)
 | _=>.Pass ⟨0,0,0,0⟩
end DL
namespace DL
open PySem PySem.W PySem.Spec PyProof.Rows L2
section
variable {X:Cx}{B:BB}{e:Expr}{pos p:Pos}{t:M (List D)}
theorem wm:CallR X (.type "int") (λxs H Q=>∃ b:Bool,xs=[.bl b]/\Q (.int (if b then 1 else 0)) H):=by
 intro aa s U H xs us Q I r h
 obtain ⟨b,rfl,q⟩:=h
 obtain ⟨u,rfl,ru⟩:=vals1 r
 cases ru
 exact call_int_1 (meets_int_new_bool b) (show (Made.int (if b then 1 else 0)).post _ s from ⟨rfl,⟨.int _,H,I.tok _,⟨_,rfl⟩,q⟩⟩)
noncomputable def intBF (ds:List D):Option D:=match ds with
 | [.bl b]=>some (.int (if b then 1 else 0))
 | _=>none
theorem A5 (hg:Gl X "int") (hm:X.mg "int"=none) (ha:AD X B [e] t) (he:starEach [e] X.env=(false,eval e X.env)::starEach [] X.env:=by rfl) (az:(backTo pos (starEach [] X.env)).any (·.1)=false:=by rfl) :
  ED X B (.Call (.Name "int" p) [e] [] pos) (fn1 intBF t):=uM wm (λds d e B G I H U Γ xs Q r h k=>by
 unfold intBF at e
 split at e
 ·cases e
  obtain ⟨y,rfl,hx⟩:=h.one
  rw [mP hx]
  exact ⟨_,rfl,k.now r (Is.int _)⟩
 ·cases e) hg hm boot_int ha (by decide) (by decide) he az
end
end DL
namespace DL
open PySem L2
variable {α Y:Type}
def wp (m:M α) (Γ:Gm) (Q:α->Gm->Prop):Prop:=∃ a ac,m Γ=some (a,ac)/\Q a ac
def wpF (g:List R->Option (R×List R)) (rs:List R) (Q:R->List R->Prop):Prop:=∃ r aK,g rs=some (r,aK)/\Q r aK
def wpB (g:List R->Option (R×List R)) (c ds:List D) (Q:R->List D->Prop):Prop:=∃ r c',bcF g c ds=some (r,c')/\Q r c'
section
variable {Γ:Gm}{Q:α->Gm->Prop}{QD:D->Gm->Prop}{QL:List D->Gm->Prop}{QB:Bool->Gm->Prop}{QS:Fl->Gm->Prop}{QU:Unit->Gm->Prop}
theorem wp.mono {m:M α}{Q':α->Gm->Prop} (h:wp m Γ Q) (f:∀ a Γ,Q a Γ->Q' a Γ):wp m Γ Q':=by
 obtain ⟨a,ac,e,q⟩:=h
 exact ⟨a,ac,e,f _ _ q⟩
@[simp ↓] theorem pK {a:α}:wp (ret a) Γ Q↔Q a Γ:=by
 constructor
 ·rintro ⟨b,ac,e,q⟩;cases e;exact q
 ·intro q;exact ⟨_,_,rfl,q⟩
@[simp ↓] theorem mL {Y:Type}{m:M Y}{f:Y->M α}:wp (bnd m f) Γ Q↔wp m Γ λb Γ1=>wp (f b) Γ1 Q:=by
 constructor
 ·rintro ⟨a,ac,e,q⟩
  obtain ⟨b,Γ1,e1,e2⟩:=i' e
  exact ⟨b,Γ1,e1,a,ac,e2,q⟩
 ·rintro ⟨b,Γ1,e1,a,ac,e2,q⟩
  exact ⟨a,ac,by unfold bnd;rw [e1];exact e2,q⟩
@[simp ↓] theorem Cm {a:α}:wp (lft (some a)) Γ Q↔Q a Γ:=by
 constructor
 ·rintro ⟨b,ac,e,q⟩;cases e;exact q
 ·intro q;exact ⟨_,_,rfl,q⟩
theorem sv {o:Option α}{a:α} (h:o=some a):wp (lft o) Γ Q↔Q a Γ:=by rw [h,Cm]
@[simp ↓] theorem Dy {i:Nat}:wp (nm i) Γ QD↔match Γ[i]? with
  | some (some (.val d))=>QD d Γ
  | some (some (.own ds))=>QD (.lst ds) (Γ.set i (some (.val (.lst ds))))
  | some (some (.fro ds))=>QD (.lst ds) Γ
  | _=>False:=by
 unfold wp nm
 rcases e:Γ[i]? with _ | _ | r
 ·simp
 ·simp
 ·cases r<;>simp<;>exact ⟨λ⟨_,_,⟨h1,h2⟩,q⟩=>by subst h1;subst h2;exact q,λq=>⟨_,_,⟨rfl,rfl⟩,q⟩⟩
@[simp ↓] theorem Dm {F:D->D->Option α}{a b:M D}:wp (op2 F a b) Γ Q↔wp a Γ λx Γ1=>wp b Γ1 λy ai=>wp (lft (F x y)) ai Q:=by simp [op2]
@[simp ↓] theorem Dp {F:List D->Option α}{t:M (List D)}:wp (fn1 F t) Γ Q↔wp t Γ λds Γ1=>wp (lft (F ds)) Γ1 Q:=by simp [fn1]
@[simp ↓] theorem DA:wp nilA Γ QL↔QL [] Γ:=by simp [nilA]
@[simp ↓] theorem Dh {g:M D}{t:M (List D)}:wp (consA g t) Γ QL↔wp g Γ λd Γ1=>wp t Γ1 λds ai=>QL (d::ds) ai:=by simp [consA]
@[simp ↓] theorem Ea {t:M (List D)}:wp (tupA t) Γ QD↔wp t Γ λds Γ1=>wp (lft (if ds.length<=lim then some (.tup ds) else none)) Γ1 QD:=by simp [tupA]
@[simp ↓] theorem CT {t:M (List D)}:wp (lstA t) Γ QL↔wp t Γ λds Γ1=>wp (lft (if ds.length<=lim then some ds else none)) Γ1 QL:=by simp [lstA]
@[simp ↓] theorem Dv {t:M (List D)}:wp (frz t) Γ QD↔wp t Γ λds Γ1=>QD (.lst ds) Γ1:=by simp [frz]
@[simp ↓] theorem DQ {g:M D}:wp (tst g) Γ QB↔wp g Γ λd Γ1=>wp (lft (asB d)) Γ1 QB:=by simp [tst]
@[simp] theorem Cq {b:Bool}:asB (.bl b)=some b:=rfl
@[simp] theorem Dq {b:Int}:asI (.int b)=some b:=rfl
@[simp ↓] theorem CC {F F':D->D->Option D}{a b c:M D}:wp (chn F F' a b c) Γ QD↔wp a Γ λx Γ1=>wp b Γ1 λy ai=>wp (lft (F x y)) ai λz aF=>wp (lft (asB z)) aF λk aI=>if k=true then wp c aI λw dR=>wp (lft (F' y w)) dR QD else QD (.bl false) aI:=by
 simp only [chn,mL]
 constructor<;>(intro h;refine h.mono λx Γ1 h=>h.mono λy ai h=>h.mono λz aF h=>h.mono λk aI h=>?_)<;>(cases k<;>simpa using h)
@[simp ↓] theorem DU {a b:M Bool}:wp (andT a b) Γ QB↔wp a Γ λk Γ1=>if k=true then wp b Γ1 QB else QB false Γ1:=by
 simp only [andT,mL]
 constructor<;>(intro h;refine h.mono λk Γ1 h=>?_)<;>(cases k<;>simpa using h)
@[simp ↓] theorem CM {a:M Bool}:wp (notT a) Γ QB↔wp a Γ λk Γ1=>QB (!k) Γ1:=by simp [notT]
@[simp ↓] theorem DO {c:M Bool}{a b:M D}:wp (ifV c a b) Γ QD↔wp c Γ λk Γ1=>if k=true then wp a Γ1 QD else wp b Γ1 QD:=by
 simp only [ifV,mL]
 constructor<;>(intro h;refine h.mono λk Γ1 h=>?_)<;>(cases k<;>simpa using h)
theorem uF {a b:M Fl}:wp (seqS a b) Γ QS↔wp a Γ λf Γ1=>match f with
  | .nx=>wp b Γ1 QS
  | .rt r=>QS (.rt r) Γ1
  | .bk=>QS .bk Γ1
  | .ct=>QS .ct Γ1:=by
 simp only [seqS,mL]
 constructor<;>(intro h;refine h.mono λf Γ1 h=>?_)<;>(cases f<;>simpa using h)
@[simp ↓] theorem CD {a:M D}:wp (dropS a) Γ QS↔wp a Γ λ_ Γ1=>QS .nx Γ1:=by simp [dropS]
@[simp ↓] theorem Cv {a:M D}:wp (retS a) Γ QS↔wp a Γ λd Γ1=>QS (.rt (.val d)) Γ1:=by simp [retS]
@[simp ↓] theorem Dl {a:M (List D)}:wp (retO a) Γ QS↔wp a Γ λd Γ1=>QS (.rt (.own d)) Γ1:=by simp [retO]
@[simp ↓] theorem DJ {c:M Bool}{a b:M Fl}:wp (ifS c a b) Γ QS↔wp c Γ λk Γ1=>if k=true then wp a Γ1 QS else wp b Γ1 QS:=by
 simp only [ifS,mL]
 constructor<;>(intro h;refine h.mono λk Γ1 h=>?_)<;>(cases k<;>simpa using h)
@[simp ↓] theorem Eb {i:Nat}{q:R}:wp (putS i q) Γ QU↔i < Γ.length/\QU () (Γ.set i (some q)):=by
 unfold wp putS
 constructor
 ·rintro ⟨a,ac,e,h⟩
  obtain ⟨h1,h2⟩:=my e
  cases h2
  exact ⟨h1,h⟩
 ·rintro ⟨h1,h2⟩
  exact ⟨(),_,by rw [if_pos h1],h2⟩
@[simp ↓] theorem CG {i:Nat}{d:D}:wp (tgN i d) Γ QU↔i < Γ.length/\QU () (Γ.set i (some (.val d))):=by simp [tgN]
@[simp ↓] theorem Cs:wp (tgNil []) Γ QU↔QU () Γ:=by simp [tgNil]
@[simp ↓] theorem DP {f:D->M Unit}{t:List D->M Unit}{d:D}{ds:List D}:wp (tgCons f t (d::ds)) Γ QU↔wp (f d) Γ λ_ Γ1=>wp (t ds) Γ1 QU:=by simp [tgCons]
@[simp ↓] theorem Du {n:Nat}{t:List D->M Unit}{ds:List D}:wp (tgTup n t (.tup ds)) Γ QU↔ds.length=n/\wp (t ds) Γ QU:=by
 unfold tgTup
 by_cases h:ds.length=n
 ·simp [h]
 ·simp only [h,if_false,false_and,iff_false]
  rintro ⟨_,_,e,_⟩;cases e
@[simp ↓] theorem vR {i:Nat}{g:M D}:wp (setV i g) Γ QS↔wp g Γ λd Γ1=>i < Γ1.length/\QS .nx (Γ1.set i (some (.val d))):=by simp [setV]
@[simp ↓] theorem Cy {i:Nat}{g:M (List D)}:wp (setO i g) Γ QS↔wp g Γ λd Γ1=>i < Γ1.length/\QS .nx (Γ1.set i (some (.own d))):=by simp [setO]
@[simp ↓] theorem oN {i:Nat}{m:M α}:wp (mutS i m) Γ Q↔isMut Γ i=true/\wp m Γ Q:=by
 unfold mutS wp
 by_cases h:isMut Γ i=true
 ·simp [h]
 ·simp [h]
@[simp ↓] theorem CW {i:Nat}{F:List D->Option (List D)}:wp (wr i F) Γ QU↔match Γ[i]? with
  | some (some (.own ds))=>∃ es,F ds=some es/\QU () (Γ.set i (some (.own es)))
  | some (some (.bor ds))=>∃ es,F ds=some es/\QU () (Γ.set i (some (.bor es)))
  | _=>False:=by
 unfold wp wr
 rcases e:Γ[i]? with _ | _ | r
 ·simp
 ·simp
 ·cases r with
  | val d=>simp
  | fro d=>simp
  | dic d=>simp
  | own ds =>
   rcases he:F ds with _ | es
   ·simp [he]
   ·simp [he]
    exact ⟨λ⟨_,q⟩=>q,λq=>⟨(),q⟩⟩
  | bor ds =>
   rcases he:F ds with _ | es
   ·simp [he]
   ·simp [he]
    exact ⟨λ⟨_,q⟩=>q,λq=>⟨(),q⟩⟩
@[simp ↓] theorem Cr {i:Nat}{g:M D}:wp (appS i g) Γ QS↔isMut Γ i=true/\wp g Γ λd Γ1=>wp (wr i (appF d)) Γ1 λ_ ai=>QS .nx ai:=by simp only [appS,oN,mL,pK]
@[simp ↓] theorem Dz {i:Nat}{g:M D}:wp (extS i g) Γ QS↔isMut Γ i=true/\wp g Γ λd Γ1=>wp (wr i (extF d)) Γ1 λ_ ai=>QS .nx ai:=by simp only [extS,oN,mL,pK]
@[simp ↓] theorem CI {i:Nat}{gi gv:M D}:wp (stS i gi gv) Γ QS↔wp gv Γ λd Γ1=>isMut Γ1 i=true/\wp gi Γ1 λn ai=>wp (lft (asI n)) ai λk aF=>wp (wr i (stF k d)) aF λ_ aI=>QS .nx aI:=by simp only [stS,oN,mL,pK]
@[simp ↓] theorem DV {i:Nat}:wp (look i) Γ QD↔match Γ[i]? with
  | some (some (.own ds))=>QD (.lst ds) Γ
  | some (some (.bor ds))=>QD (.lst ds) Γ
  | _=>False:=by
 unfold wp look
 rcases e:Γ[i]? with _ | _ | r
 ·simp
 ·simp
 ·cases r<;>simp<;>exact ⟨λ⟨_,_,⟨h1,h2⟩,q⟩=>by subst h1;subst h2;exact q,λq=>⟨_,_,⟨rfl,rfl⟩,q⟩⟩
@[simp ↓] theorem Cz {i:Nat}{g:M D}:wp (atN i g) Γ QD↔isMut Γ i=true/\wp g Γ λn Γ1=>wp (look i) Γ1 λl ai=>wp (lft (ixF l n)) ai QD:=by simp only [atN,oN,mL]
@[simp ↓] theorem DB {g:M D}{QO:Option Int->Gm->Prop}:wp (prt g) Γ QO↔wp g Γ λd Γ1=>wp (lft (asI d)) Γ1 λi ai=>QO (some i) ai:=by simp [prt]
@[simp ↓] theorem DX {F:D->Option Int->Option Int->Option α}{g:M D}{gl gh:M (Option Int)}:wp (sl3 F g gl gh) Γ Q↔wp g Γ λd Γ1=>wp gl Γ1 λl ai=>wp gh ai λh aF=>wp (lft (F d l h)) aF Q:=by simp [sl3]
@[simp ↓] theorem DR {g:M D}:wp (itS g) Γ QL↔wp g Γ λd Γ1=>wp (lft (seqI d)) Γ1 QL:=by simp [itS]
@[simp ↓] theorem DN {it:M (List D)}{ay:D->M Unit}{body:M Fl}:wp (forS it ay body) Γ QS↔wp it Γ λds Γ1=>wp (forM ay body ds) Γ1 QS:=by simp [forS]
@[simp ↓] theorem Cu {i:Nat}{g:List R->Option (R×List R)}{t:M (List D)}{QR:R->Gm->Prop}:wp (callB i g t) Γ QR↔isMut Γ i=true/\wp t Γ λds Γ1=>match Γ1[i]? with
  | some (some (.own c))=>wpB g c ds λr c'=>QR r (Γ1.set i (some (.own c')))
  | some (some (.bor c))=>wpB g c ds λr c'=>QR r (Γ1.set i (some (.bor c')))
  | _=>False:=by
 simp only [callB,oN,mL]
 refine and_congr_right λ_=>?_
 have bS:∀ (ds:List D) (Γ1:Gm),wp (λΓ:Gm=>match Γ[i]? with
   | some (some (.own c))=>match bcF g c ds with
    | some (r,c')=>some (r,Γ.set i (some (.own c')))
    | none=>none
   | some (some (.bor c))=>match bcF g c ds with
    | some (r,c')=>some (r,Γ.set i (some (.bor c')))
    | none=>none
   | _=>none) Γ1 QR↔(match Γ1[i]? with
  | some (some (.own c))=>wpB g c ds λr c'=>QR r (Γ1.set i (some (.own c')))
  | some (some (.bor c))=>wpB g c ds λr c'=>QR r (Γ1.set i (some (.bor c')))
  | _=>False):=by
  intro ds Γ1
  unfold wp wpB
  dsimp only
  rcases e:Γ1[i]? with _ | _ | r
  ·simp
  ·simp
  ·cases r with
   | val d=>simp
   | fro d=>simp
   | dic d=>simp
   | own c =>
    rcases he:bcF g c ds with _ | ⟨r,c'⟩
    ·simp [he]
    ·simp only [he]
     constructor
     ·rintro ⟨a,b,h,q⟩;cases h;exact ⟨_,_,rfl,q⟩
     ·rintro ⟨a,b,h,q⟩;cases h;exact ⟨_,_,rfl,q⟩
   | bor c =>
    rcases he:bcF g c ds with _ | ⟨r,c'⟩
    ·simp [he]
    ·simp only [he]
     constructor
     ·rintro ⟨a,b,h,q⟩;cases h;exact ⟨_,_,rfl,q⟩
     ·rintro ⟨a,b,h,q⟩;cases h;exact ⟨_,_,rfl,q⟩
 constructor
 ·intro h;exact h.mono λds Γ1 h=>(bS ds Γ1).mp h
 ·intro h;exact h.mono λds Γ1 h=>(bS ds Γ1).mpr h
@[simp ↓] theorem CP {i:Nat}{g:List R->Option (R×List R)}{t:M (List D)}:wp (cbV i g t) Γ QD↔wp (callB i g t) Γ λr Γ1=>wp (lft (asV r)) Γ1 QD:=by simp only [cbV,mL]
@[simp] theorem CK {d:D}:asV (.val d)=some d:=rfl
@[simp] theorem Dx {d:List D}:asO (.own d)=some d:=rfl
theorem vT {ay:D->M Unit}{body:M Fl}{ds:List D} (J:Nat->Gm->Prop) (h0:J 0 Γ)
  (hs:∀ (i:Nat) (d:D) (Γ:Gm),ds[i]?=some d->J i Γ->wp (ay d) Γ λ_ Γ1=>wp body Γ1 λf ai=>match f with
   | .nx=>J (i+1) ai
   | .ct=>J (i+1) ai
   | .bk=>QS .nx ai
   | .rt r=>QS (.rt r) ai) (hd:∀ Γ,J ds.length Γ->QS .nx Γ):wp (forM ay body ds) Γ QS:=by
 have bS:∀ (n:Nat) (es:List D) (Γ:Gm) (i:Nat),es.length=n->ds.drop i=es->i<=ds.length->J i Γ->wp (forM ay body es) Γ QS:=by
  intro n
  induction n with
  | zero =>
   intro es Γ i hl he hi hj
   have:es=[]:=List.length_eq_zero_iff.mp hl
   subst this
   have cN:i=ds.length:=by
    have:=congrArg List.length he
    rw [length_drop] at this
    simp at this;omega
   subst cN
   exact ⟨_,_,rfl,hd Γ hj⟩
  | succ n ih =>
   intro es Γ i hl he hi hj
   cases es with
   | nil=>simp at hl
   | cons d es =>
    have br:i < ds.length:=by
     have:=congrArg List.length he
     rw [length_drop,length_cons] at this
     omega
    have et:ds.drop i=ds[i]::ds.drop (i+1):=drop_eq_getElem_cons br
    rw [et] at he
    injection he with e1 e2
    have dB:ds[i]?=some d:=by rw [getElem?_eq_getElem br,e1]
    have step:=hs i d Γ dB hj
    rw [forM,mL]
    refine step.mono λ_ Γ1 h1=>?_
    rw [mL]
    refine h1.mono λf ai h2=>?_
    cases f with
    | nx=>exact ih es ai (i+1) (by simpa using hl) e2 br h2
    | ct=>exact ih es ai (i+1) (by simpa using hl) e2 br h2
    | bk=>exact ⟨_,_,rfl,h2⟩
    | rt r=>exact ⟨_,_,rfl,h2⟩
 exact bS ds.length ds Γ 0 rfl rfl (zero_le _) h0
theorem vD {n ar:Nat}{body:M Fl}{rs:List R}{QR:R->List R->Prop} (hl:rs.length=ar) (h:wp body (rs.map some++replicate (n - rs.length) none) λf ac=>∃ r,flR f=some r/\∃ l,fin rs ac=some l/\QR r l):wpF (fnD n ar body) rs QR:=by
 obtain ⟨f,ac,e,r,e1,l,e2,q⟩:=h
 refine ⟨r,l,?_,q⟩
 unfold fnD
 rw [if_pos hl]
 unfold fnD1
 rw [e]
 simp only [e1,e2]
theorem wU {g:List R->Option (R×List R)}{ds:List D}{d:D} (h:wpF g (ds.map .val) λr _=>r=.val d):cvF g ds=some d:=by
 obtain ⟨r,aK,e,rfl⟩:=h
 unfold cvF
 rw [e]
theorem zu {g:List R->Option (R×List R)}{ds:List D}{P:List D->Prop} (h:wpF g (ds.map .val) λr _=>∃ d,r=.own d/\P d):∃ d,coF g ds=some d/\P d:=by
 obtain ⟨r,aK,e,d,rfl,hp⟩:=h
 exact ⟨d,by unfold coF;rw [e],hp⟩
theorem wM {g:List R->Option (R×List R)}{c ds:List D}{QR:R->List D->Prop} (h:wpF g (.bor c::ds.map .val) λr aK=>∃ c' t,aK=.bor c'::t/\QR r c'):wpB g c ds QR:=by
 obtain ⟨r,aK,e,c',t,rfl,q⟩:=h
 exact ⟨r,c',by unfold bcF;rw [e],q⟩
end
end DL
namespace DL
open PySem L2
section
variable {α:Type}{Γ:Gm}{Q:α->Gm->Prop}{QD:D->Gm->Prop}{QL:List D->Gm->Prop}{i j:Int}
@[simp ↓] theorem n6 {c:Prop} [Decidable c]{a:α}:wp (lft (if c then some a else none)) Γ Q↔c/\Q a Γ:=by
 by_cases h:c
 ·simp [h]
 ·simp only [h,if_false,false_and,iff_false]
  rintro ⟨_,_,e,_⟩;cases e
@[simp ↓] theorem Dk:wp (lft (none:Option α)) Γ Q↔False:=by
 simp only [iff_false]
 rintro ⟨_,_,e,_⟩;cases e
@[simp ↓] theorem Dt:wp (λ_=>(none:Option (α×Gm))) Γ Q↔False:=by
 simp only [iff_false]
 rintro ⟨_,_,e,_⟩;cases e
@[simp] theorem Da:subI (.int i) (.int j)=some (.int (i - j)):=rfl
@[simp] theorem Di:addF (.int i) (.int j)=some (.int (i+j)):=rfl
@[simp] theorem f_lt:ltI (.int i) (.int j)=some (.bl (decide (i < j))):=rfl
@[simp] theorem f_le:leI (.int i) (.int j)=some (.bl (decide (i<=j))):=rfl
@[simp] theorem f_gt:gtI (.int i) (.int j)=some (.bl (decide (j < i))):=rfl
@[simp] theorem f_ge:geI (.int i) (.int j)=some (.bl (decide (j<=i))):=rfl
@[simp ↓] theorem Dr:wp (lft (modI (.int i) (.int j))) Γ QD↔0 < j/\QD (.int (i % j)) Γ:=by simp [modI,intF]
@[simp ↓] theorem Df:wp (lft (divI (.int i) (.int j))) Γ QD↔(0 < j/\j < 2 ^ 200)/\QD (.int (i / j)) Γ:=by simp only [divI,intF,decide_eq_true_eq,n6]
@[simp ↓] theorem DK:wp (lft (mulI (.int i) (.int j))) Γ QD↔((-(2 ^ 64) < i/\i < 2 ^ 64)\/(-(2 ^ 64) < j/\j < 2 ^ 64))/\QD (.int (i*j)) Γ:=by simp only [mulI,intF,decide_eq_true_eq,n6]
@[simp ↓] theorem Ds:wp (lft (powI (.int i) (.int j))) Γ QD↔(0<=j/\j<=1000000/\i.natAbs < 2 ^ 64)/\QD (.int (i ^ j.toNat)) Γ:=by simp only [powI,intF,decide_eq_true_eq,n6]
@[simp] theorem DT {ds:List D}:ixF (.lst ds) (.int i)=atI ds i:=rfl
@[simp] theorem DG {ds:List D}:ixF (.tup ds) (.int i)=atI ds i:=rfl
theorem oH {α:Type}{ds:List α}{n:Nat}:atI ds (n:Int)=ds[n]?:=by
 unfold atI ixN
 rw [if_pos (by omega)]
 by_cases h:(n:Int) < ds.length
 ·rw [if_pos h];simp
 ·rw [if_neg h]
  have:ds.length<=n:=by omega
  simp [List.getElem?_eq_none this]
@[simp] theorem D' {α:Type}{a:α}{ds:List α}:atI (a::ds) 0=some a:=by
 rw [show (0:Int)=((0:Nat):Int) from rfl,oH];rfl
@[simp] theorem Dw {α:Type}{a b:α}{ds:List α}:atI (a::b::ds) 1=some b:=by
 rw [show (1:Int)=((1:Nat):Int) from rfl,oH];rfl
@[simp] theorem Dj {α:Type}{a b c:α}{ds:List α}:atI (a::b::c::ds) 2=some c:=by
 rw [show (2:Int)=((2:Nat):Int) from rfl,oH];rfl
theorem vn {α:Type}{ds:List α}{i:Int} (h0:0<=i) (h1:i < ds.length):∃ a,atI ds i=some a/\a∈ds:=by
 obtain ⟨n,rfl⟩:=Int.eq_ofNat_of_zero_le h0
 have h:n < ds.length:=by omega
 exact ⟨ds[n],by rw [oH,getElem?_eq_getElem h],getElem_mem h⟩
@[simp] theorem Dc {a b d:D}{ds:List D}:stF 1 d (a::b::ds)=some (a::d::ds):=by
 unfold stF ixN
 rw [if_pos (by omega),if_pos (by simp;omega)]
 rfl
@[simp] theorem DY {a b c d:D}{ds:List D}:stF 2 d (a::b::c::ds)=some (a::b::d::ds):=by
 unfold stF ixN
 rw [if_pos (by omega),if_pos (by simp;omega)]
 rfl
@[simp] theorem DW {ds:List D}:lenF [.lst ds]=some (.int ds.length):=rfl
@[simp] theorem CU {ds:List D}:lenF [.tup ds]=some (.int ds.length):=rfl
@[simp] theorem DF {ds:List D}:tupF [.lst ds]=some (.tup ds):=rfl
@[simp] theorem CB {ds:List D}:tupF [.tup ds]=some (.tup ds):=rfl
@[simp] theorem CO {ds:List D}:lstF [.lst ds]=some ds:=rfl
@[simp] theorem CY {ds:List D}:lstF [.tup ds]=some ds:=rfl
@[simp] theorem CQ {ds:List D}:seqI (.lst ds)=some ds:=rfl
@[simp] theorem DD {ds:List D}:seqI (.tup ds)=some ds:=rfl
@[simp] theorem Ec {b:Bool}:reprF [.bl b]=some (.str (if b then "True" else "False")):=rfl
@[simp] theorem Dg {ds:List D}{lo hi:Option Int}:slF (.lst ds) lo hi=some (.lst (cutD ds lo hi)):=rfl
@[simp] theorem De {xs ys:List D}:zipI [.lst xs,.lst ys]=some (pairsD xs ys):=rfl
@[simp] theorem Ct {xs ys:List D}:zipI [.tup xs,.tup ys]=some (pairsD xs ys):=rfl
@[simp] theorem CZ {xs:List D}:enumI [.lst xs]=some (numD 0 xs):=rfl
@[simp] theorem CN {xs:List D}:enumI [.tup xs]=some (numD 0 xs):=rfl
@[simp ↓] theorem CF:wp (lft (rngI1 [.int j])) Γ QL↔(-1000000<=j/\j<=1000000)/\QL (rngD 0 j.toNat) Γ:=by simp only [rngI1,n6]
@[simp ↓] theorem Dd:wp (lft (rngI2 [.int i,.int j])) Γ QL↔((-1000000<=i/\i<=1000000)/\-1000000<=j/\j<=1000000)/\QL (rngD i (j - i).toNat) Γ:=by simp only [rngI2,n6]
@[simp ↓] theorem DM {neg:Bool}{a b:D}:wp (lft (eqF neg a b)) Γ QD↔(dep a<=100/\dep b<=100)/\QD (.bl (if neg then !deq a b else deq a b)) Γ:=by simp only [eqF,n6]
@[simp ↓] theorem CV {xs ys:List D}:wp (lft (catF (.lst xs) (.lst ys))) Γ QL↔xs.length+ys.length<=lim/\QL (xs++ys) Γ:=by simp only [catF,n6]
@[simp] theorem DZ:dep (.lst [])=1:=by simp [dep,depA]
@[simp] theorem oh {a b:Int}:deq (.int a) (.int b)=(a == b):=by simp [deq]
@[simp] theorem Do {ds:List D}:deq (.lst ds) (.lst [])=ds.isEmpty:=by cases ds<;>simp [deq,deqA]
@[simp] theorem DE {a b:Bool}:deq (.str (if a then "True" else "False")) (.str (if b then "True" else "False"))=(a == b):=by cases a<;>cases b<;>decide
@[simp] theorem va:lim=1000000:=rfl
@[simp] theorem DH {d:D}{ds:List D}{P:List D->Prop}:(∃ es,appF d ds=some es/\P es)↔ds.length < 1000000/\P (ds++[d]):=by
 unfold appF
 rw [va]
 by_cases h:ds.length < 1000000<;>simp [h]
@[simp] theorem CA {xs ds:List D}{P:List D->Prop}:(∃ es,extF (.lst xs) ds=some es/\P es)↔ds.length+xs.length<=1000000/\P (ds++xs):=by
 unfold extF
 rw [va]
 by_cases h:ds.length+xs.length<=1000000<;>simp [h]
theorem ml {a b:M Fl}{QS:Fl->Gm->Prop} (h:∀ K:Fl->Gm->Prop,(∀ Γ1,wp b Γ1 QS->K .nx Γ1)->(∀ r Γ1,QS (.rt r) Γ1->K (.rt r) Γ1)->wp a Γ K):wp (seqS a b) Γ QS:=by
 rw [uF]
 exact h _ (λ_ h=>h) (λ_ _ h=>h)
theorem rp {a b:M Fl}{QS:Fl->Gm->Prop} (P:Gm->Prop) (h:∀ K:Fl->Gm->Prop,(∀ Γ1,P Γ1->K .nx Γ1)->(∀ r Γ1,QS (.rt r) Γ1->K (.rt r) Γ1)->wp a Γ K) (h2:∀ Γ1,P Γ1->wp b Γ1 QS):wp (seqS a b) Γ QS:=by
 rw [uF]
 exact h _ (λ_ p=>h2 _ p) (λ_ _ h=>h)
theorem nK {ay:D->M Unit}{body:M Fl}{ds:List D}{QS:Fl->Gm->Prop} (J:Nat->Gm->Prop) (h0:J 0 Γ)
  (hs:∀ (i:Nat) (d:D) (Γ:Gm),ds[i]?=some d->J i Γ->∀ K:Fl->Gm->Prop,(∀ ai,J (i+1) ai->K .nx ai)->(∀ ai,J (i+1) ai->K .ct ai)->(∀ ai,QS .nx ai->K .bk ai)->(∀ r ai,QS (.rt r) ai->K (.rt r) ai)->wp (ay d) Γ λ_ Γ1=>wp body Γ1 K) (hd:∀ Γ,J ds.length Γ->QS .nx Γ):wp (forM ay body ds) Γ QS :=
 vT J h0 (λi d Γ h j=>hs i d Γ h j _ (λ_ h=>h) (λ_ h=>h) (λ_ h=>h) (λ_ _ h=>h)) hd
theorem nU {n ar:Nat}{body:M Fl}{rs:List R}{QR:R->List R->Prop} (hl:rs.length=ar) (h:∀ K:Fl->Gm->Prop,(∀ r ac,(∃ l,fin rs ac=some l/\QR r l)->K (.rt r) ac)->(∀ ac,(∃ l,fin rs ac=some l/\QR (.val .non) l)->K .nx ac)->wp body (rs.map some++replicate (n - rs.length) none) K):wpF (fnD n ar body) rs QR :=
 vD hl (h _ (λr _ h=>⟨r,rfl,h⟩) (λ_ h=>⟨_,rfl,h⟩))
theorem qi {n ar:Nat}{body:M Fl}{c ds:List D}{QR:R->List D->Prop} (hl:ds.length+1=ar) (h:∀ K:Fl->Gm->Prop,(∀ r c' ac,(∃ t,fin (ds.map .val) ac=some t)->QR r c'->K (.rt r) (some (.bor c')::ac))->(∀ c' ac,(∃ t,fin (ds.map .val) ac=some t)->QR (.val .non) c'->K .nx (some (.bor c')::ac))->wp body ((.bor c::ds.map .val).map some++replicate (n - (ds.length+1)) none) K):wpB (fnD n ar body) c ds QR:=by
 refine wM (nU (by simpa using hl) λK k1 k2=>?_)
 refine (by simpa using h K (λr c' ac ⟨t,e⟩ q=>k1 r _ ⟨_,by simp [fin,e],c',t,rfl,q⟩) (λc' ac ⟨t,e⟩ q=>k2 _ ⟨_,by simp [fin,e],c',t,rfl,q⟩))
theorem vq {α:Type}{m:Nat}{ay:D->M Unit}{ts:M Bool}{el:M D}{it:M (List D)} (xs:List α) (f:α->D) (p:α->Bool) (v:α->D)
  (h:wp it Γ λds Γ1=>ds=xs.map f/\xs.length<=1000000/\(∀ x∈xs,∀ cs:Gm,cs.length=m->wp (ay (f x)) (cs++Γ1) λ_ ai=>wp ts ai λb aF=>b=p x/\(if b=true then wp el aF λy aI=>y=v x/\∃ bE,bE.length=m/\aI=bE++Γ1 else ∃ bE,bE.length=m/\aF=bE++Γ1)) ∧
   QL ((xs.filter p).map v) Γ1):wp (compO m it ay ts el) Γ QL:=by
 unfold compO
 rw [mL]
 refine h.mono λds Γ1 ⟨dj,hl,hp,hq⟩=>?_
 subst dj
 rw [if_pos (by simpa using hl)]
 have bS:∀ (es:List α) (cs:Gm),(∀ d∈es,d∈xs)->cs.length=m->∃ bE,bE.length=m/\compM ay ts el (es.map f) (cs++Γ1)=some ((es.filter p).map v,bE++Γ1):=by
  intro es
  induction es with
  | nil=>intro cs _ hc;exact ⟨cs,hc,rfl⟩
  | cons d es ih =>
   intro cs hm hc
   obtain ⟨u,ai,e1,b,aF,e2,hb,h3⟩:=hp d (hm d mem_cons_self) cs hc
   have jh:∀ d∈es,d∈xs:=λd hd=>hm d (mem_cons_of_mem _ hd)
   cases b with
   | false =>
    rw [if_neg Bool.false_ne_true] at h3
    obtain ⟨bE,aX,rfl⟩:=h3
    obtain ⟨hG,bZ,e3⟩:=ih bE jh aX
    refine ⟨hG,bZ,?_⟩
    rw [map_cons,compM]
    unfold bnd
    simp only [e1,e2,Bool.false_eq_true,if_false]
    rw [e3,List.filter_cons,← hb]
    simp
   | true =>
    rw [if_pos rfl] at h3
    obtain ⟨x,aI,e4,rfl,bE,aX,rfl⟩:=h3
    obtain ⟨hG,bZ,e3⟩:=ih bE jh aX
    refine ⟨hG,bZ,?_⟩
    rw [map_cons,compM]
    unfold bnd
    simp only [e1,e2,if_true,e4]
    rw [e3,List.filter_cons,← hb]
    rfl
 obtain ⟨bE,aX,e⟩:=bS xs (replicate m none) (λ_ h=>h) (by simp)
 refine ⟨_,_,?_,hq⟩
 unfold inC
 rw [e]
 simp [aX,List.drop_append]
theorem xL {α:Type}{ay:D->M Unit}{ts:M Bool}{el:M D}{it:M (List D)} (xs:List α) (f:α->D) (p:α->Bool) (v:α->D)
  (h:wp it Γ λds Γ1=>ds=xs.map f/\xs.length<=1000000/\(∀ x∈xs,∀ a,wp (ay (f x)) (a::Γ1) λ_ ai=>wp ts ai λb aF=>b=p x/\(if b=true then wp el aF λy aI=>y=v x/\∃ a',aI=a'::Γ1 else ∃ a',aF=a'::Γ1)) ∧
   QL ((xs.filter p).map v) Γ1):wp (compO 1 it ay ts el) Γ QL:=by
 refine vq xs f p v (h.mono λds Γ1 ⟨h1,h2,h3,h4⟩=>⟨h1,h2,λx hx cs hc=>?_,h4⟩)
 obtain ⟨a,rfl⟩:=List.length_eq_one_iff.mp hc
 refine (h3 x hx a).mono λ_ ai h=>h.mono λb aF ⟨h5,h6⟩=>⟨h5,?_⟩
 cases b with
 | true=>simp only [if_true] at h6 ⊢;exact h6.mono λy aI ⟨h7,a',h8⟩=>⟨h7,[a'],rfl,h8⟩
 | false=>simp only [Bool.false_eq_true,if_false] at h6 ⊢;obtain ⟨a',h8⟩:=h6;exact ⟨[a'],rfl,h8⟩
theorem tU {α:Type}{ay:D->M Unit}{ts:M Bool}{el:M D}{it:M (List D)} (xs:List α) (f:α->D) (p:α->Bool) (v:α->D)
  (h:wp it Γ λds Γ1=>ds=xs.map f/\xs.length<=1000000/\(∀ x∈xs,∀ a b,wp (ay (f x)) (a::b::Γ1) λ_ ai=>wp ts ai λb aF=>b=p x/\(if b=true then wp el aF λy aI=>y=v x/\∃ a' b',aI=a'::b'::Γ1 else ∃ a' b',aF=a'::b'::Γ1)) ∧
   QL ((xs.filter p).map v) Γ1):wp (compO 2 it ay ts el) Γ QL:=by
 refine vq xs f p v (h.mono λds Γ1 ⟨h1,h2,h3,h4⟩=>⟨h1,h2,λx hx cs hc=>?_,h4⟩)
 obtain ⟨a,b,rfl⟩:∃ a b,cs=[a,b]:=by
  match cs,hc with
  | [a,b],_=>exact ⟨a,b,rfl⟩
 refine (h3 x hx a b).mono λ_ ai h=>h.mono λb aF ⟨h5,h6⟩=>⟨h5,?_⟩
 cases b with
 | true=>simp only [if_true] at h6 ⊢;exact h6.mono λy aI ⟨h7,a',b',h8⟩=>⟨h7,[a',b'],rfl,h8⟩
 | false=>simp only [Bool.false_eq_true,if_false] at h6 ⊢;obtain ⟨a',b',h8⟩:=h6;exact ⟨[a',b'],rfl,h8⟩
theorem nZ {n ar:Nat}{body:M Fl}{ds:List D}{d:D} (hl:ds.length=ar) (h:∀ K:Fl->Gm->Prop,(∀ ac,(∃ l,fin (ds.map .val) ac=some l)->K (.rt (.val d)) ac)->(∀ ac,d=.non->(∃ l,fin (ds.map .val) ac=some l)->K .nx ac)->wp body ((ds.map .val).map some++replicate (n - ds.length) none) K):cvF (fnD n ar body) ds=some d:=by
 refine wU (nU (by simpa using hl) λK k1 k2=>?_)
 have:=h K (λac ⟨l,e⟩=>k1 _ _ ⟨l,e,rfl⟩) (λac hd ⟨l,e⟩=>k2 _ ⟨l,e,by rw [hd]⟩)
 simpa using this
end
section
variable {α:Type}{Γ:Gm}{Q:α->Gm->Prop}{QD:D->Gm->Prop}{QL:List D->Gm->Prop}{i j:Int}
theorem sQ {xs:List D} (h:SortOk xs):sortF [.lst xs]=some (sortD xs):=by
 unfold sortF
 exact if_pos h
end
end DL
namespace DL
theorem rf {α:Type}:∀ (l m:List α),l.Nodup->(∀ x∈l,x∈m)->l.length<=m.length
 | [],m,_,_=>zero_le _
 | x::l,m,nd,h=>by
  obtain ⟨a,b,rfl⟩:=List.append_of_mem (h x mem_cons_self)
  rw [nodup_cons] at nd
  have:=rf l (a++b) nd.2 (λy hy=>by
   have:=h y (mem_cons_of_mem _ hy)
   rcases mem_append.mp this with z | z
   ·exact (mem_append_left _ z)
   ·rcases mem_cons.mp z with z | z
    ·subst z;exact absurd hy nd.1
    ·exact (mem_append_right _ z))
  simp at this ⊢
  omega
theorem ra {n ar:Nat}{body:M Fl}{ds:List D}{os:List D} (hl:ds.length=ar) (h:∀ K:Fl->Gm->Prop,(∀ ac,(∃ l,fin (ds.map .val) ac=some l)->K (.rt (.own os)) ac)->wp body ((ds.map .val).map some++replicate (n - ds.length) none) K):coF (fnD n ar body) ds=some os:=by
 have w:wpF (fnD n ar body) (ds.map .val) λr _=>r=.own os:=nU (by simpa using hl) λK k1 _=>by
  have:=h K (λac ⟨l,e⟩=>k1 _ _ ⟨l,e,rfl⟩)
  simpa using this
 obtain ⟨r,aK,e,rfl⟩:=w
 unfold coF
 rw [e]
end DL
namespace Own
open PySem PySem.Spec PyProof.Rows L2 DL
noncomputable def sf:M Fl :=
 (ifS (notT (tst (chn leI ltI (ret (.int 0)) (nm 1) (op2 ixF (nm 0) (ret (.int 0))))))
  (λ_=>none) (ret .nx))
noncomputable def mQ:List R->Option (R×List R):=fnD 2 2 sf
noncomputable def tZ:M Nat :=
 (ifX (notT (tst (chn leI ltI (ret (.int 0)) (nm 1) (op2 ixF (nm 0) (ret (.int 0))))))
  (raX 1 (consA (un1 (f1F "there is no house ") (nm 1)) nilA)) nvX)
noncomputable def nM:List D->Option Nat:=fnE 2 2 tZ
noncomputable def rO:M Fl :=
 (seqS (dropS (fn1 (cvF mQ) (consA (nm 0) (consA (nm 1) nilA))))
  (retO (fn1 sortF (consA (frz (compO 1 (itS (op2 ixF (nm 0) (ret (.int 1)))) (tgN 0) (tst (op2 (inF false) (nm 2) (nm 0))) (ifV (tst (op2 (eqF false) (op2 ixF (nm 0) (ret (.int 0))) (nm 2))) (op2 ixF (nm 0) (ret (.int 1))) (op2 ixF (nm 0) (ret (.int 0)))))) nilA))))
noncomputable def nQ:List R->Option (R×List R):=fnD 2 2 rO
noncomputable def vZ:M Nat :=
 (fnX nM (consA (nm 0) (consA (nm 1) nilA)))
noncomputable def pj:List D->Option Nat:=fnE 2 2 vZ
noncomputable def sD:M Fl :=
 (seqS (dropS (fn1 (cvF mQ) (consA (nm 0) (consA (nm 1) nilA))))
  (seqS (dropS (fn1 (cvF mQ) (consA (nm 0) (consA (nm 2) nilA))))
  (ifS (tst (op2 (inF true) (nm 2) (frz (fn1 (coF nQ) (consA (nm 0) (consA (nm 1) nilA))))))
  (λ_=>none) (ret .nx))))
noncomputable def pV:List R->Option (R×List R):=fnD 3 3 sD
noncomputable def tm:M Nat :=
 (orX (fnX nM (consA (nm 0) (consA (nm 1) nilA))) (thenX (dropS (fn1 (cvF mQ) (consA (nm 0) (consA (nm 1) nilA))))
  (orX (fnX nM (consA (nm 0) (consA (nm 2) nilA))) (thenX (dropS (fn1 (cvF mQ) (consA (nm 0) (consA (nm 2) nilA))))
  (ifX (tst (op2 (inF true) (nm 2) (frz (fn1 (coF nQ) (consA (nm 0) (consA (nm 1) nilA))))))
  (raX 2 (consA (op2 (f2F "there is no road between " " and ") (nm 1) (nm 2)) nilA)) nvX)))))
noncomputable def pL:List D->Option Nat:=fnE 3 3 tm
noncomputable def qC (g:List R->Option (R×List R)):M Fl :=
 (seqS (ifS (tst (op2 (eqF false) (nm 2) (nm 3)))
  (retO (lstA (consA (nm 2) nilA))) (ret .nx))
  (seqS (forS (itS (frz (fn1 (coF nQ) (consA (nm 0) (consA (nm 2) nilA))))) (tgN 4)
  (ifS (tst (op2 (eqF true) (nm 4) (nm 1)))
  (seqS (setV 5 (altM (frz (fn1 (coF g) (consA (nm 0) (consA (nm 2) (consA (nm 4) (consA (nm 3) nilA)))))) (fn1 (cvF g) (consA (nm 0) (consA (nm 2) (consA (nm 4) (consA (nm 3) nilA)))))))
  (ifS (tst (op2 (isNF true) (nm 5) (ret .non)))
  (retO (op2 catF (frz (lstA (consA (nm 2) nilA))) (nm 5))) (ret .nx))) (ret .nx)))
  (retS (ret .non))))
noncomputable def nI:Nat->List R->Option (R×List R)
 | 0=>λ_=>none
 | k+1=>fnD 6 4 (qC (nI k))
noncomputable def rW:M Fl :=
 (seqS (dropS (fn1 (cvF mQ) (consA (nm 0) (consA (nm 1) nilA))))
  (seqS (dropS (fn1 (cvF mQ) (consA (nm 0) (consA (nm 2) nilA))))
  (altM (retO (fn1 (coF (nI 20)) (consA (nm 0) (consA (ret .non) (consA (nm 1) (consA (nm 2) nilA)))))) (retS (fn1 (cvF (nI 20)) (consA (nm 0) (consA (ret .non) (consA (nm 1) (consA (nm 2) nilA)))))))))
noncomputable def oQ:List R->Option (R×List R):=fnD 3 3 rW
noncomputable def vE:M Nat :=
 (orX (fnX nM (consA (nm 0) (consA (nm 1) nilA))) (thenX (dropS (fn1 (cvF mQ) (consA (nm 0) (consA (nm 1) nilA))))
  (fnX nM (consA (nm 0) (consA (nm 2) nilA)))))
noncomputable def pe:List D->Option Nat:=fnE 3 3 vE
noncomputable def p7 (g:List R->Option (R×List R)):M Fl :=
 (seqS (setO 3 (lstA (consA (nm 2) nilA)))
  (seqS (forS (itS (frz (fn1 (coF nQ) (consA (nm 0) (consA (nm 2) nilA))))) (tgN 4)
  (ifS (tst (op2 (eqF true) (nm 4) (nm 1)))
  (extS 3 (fn1 (cvF g) (consA (nm 0) (consA (nm 2) (consA (nm 4) nilA))))) (ret .nx)))
  (retS (nm 3))))
noncomputable def nP:Nat->List R->Option (R×List R)
 | 0=>λ_=>none
 | k+1=>fnD 5 3 (p7 (nP k))
noncomputable def rV:M Fl :=
 (seqS (dropS (fn1 (cvF pV) (consA (nm 0) (consA (nm 1) (consA (nm 2) nilA)))))
  (retO (fn1 sortF (consA (fn1 (cvF (nP 20)) (consA (nm 0) (consA (nm 1) (consA (nm 2) nilA)))) nilA))))
noncomputable def p8:List R->Option (R×List R):=fnD 3 3 rV
noncomputable def vV:M Nat :=
 (fnX pL (consA (nm 0) (consA (nm 1) (consA (nm 2) nilA))))
noncomputable def om:List D->Option Nat:=fnE 3 3 vV
noncomputable def qL:M Fl :=
 (seqS (ifS (tst (op2 geI (nm 0) (op2 powI (ret (.int 10)) (ret (.int 18)))))
  (retS (nm 0)) (ret .nx))
  (seqS (setV 2 (op2 modI (op2 addF (op2 addF (op2 mulI (op2 modI (nm 0) (ret (.int 998244353))) (ret (.int 40692))) (op2 mulI (nm 1) (ret (.int 69621)))) (ret (.int 1009))) (ret (.int 2147483399))))
  (seqS (setV 3 (op2 modI (op2 addF (op2 addF (op2 mulI (nm 2) (nm 2)) (op2 mulI (nm 1) (ret (.int 48271)))) (op2 modI (nm 0) (ret (.int 131071)))) (ret (.int 2147483647))))
  (seqS (setV 4 (op2 modI (op2 addF (op2 addF (op2 mulI (nm 3) (nm 3)) (op2 mulI (nm 2) (ret (.int 17)))) (ret (.int 3))) (ret (.int 2147483629))))
  (retS (op2 addF (op2 mulI (op2 addF (op2 mulI (nm 2) (ret (.int 2147483647))) (nm 3)) (ret (.int 2147483629))) (nm 4)))))))
noncomputable def pt:List R->Option (R×List R):=fnD 5 2 qL
noncomputable def rn:M Fl :=
 (seqS (setO 1 (fn1 lstF (consA (sl3 slF (nm 0) (ret none) (prt (ret (.int 12)))) nilA)))
  (seqS (forS (fn1 enumI (consA (sl3 slF (nm 0) (prt (ret (.int 12))) (prt (ret (.int 63)))) nilA)) (tgTup 2 (tgCons (tgN 2) (tgCons (tgN 3) tgNil)))
  (stS 1 (op2 modI (nm 2) (ret (.int 12))) (op2 addF (atN 1 (op2 modI (nm 2) (ret (.int 12)))) (nm 3))))
  (retO (lstA (consA (nm 1) (consA (ret (.int 0)) (consA (ret (.int 0)) nilA)))))))
noncomputable def oY:List R->Option (R×List R):=fnD 4 1 rn
noncomputable def qJ:M Fl :=
 (seqS (ifS (tst (op2 ltI (atN 0 (ret (.int 2))) (nm 1)))
  (seqS (setV 2 (atN 0 (ret (.int 1))))
  (seqS (setV 3 (op2 mulI (ret (.int 11)) (nm 2)))
  (seqS (ifS (tst (op2 ltI (nm 2) (fn1 lenF (consA (atN 0 (ret (.int 0))) nilA))))
  (setV 3 (op2 ixF (atN 0 (ret (.int 0))) (nm 2))) (ifS (tst (op2 (eqF true) (atN 0 (ret (.int 0))) (frz (lstA nilA))))
  (setV 3 (op2 modI (op2 ixF (atN 0 (ret (.int 0))) (op2 modI (op2 addF (op2 mulI (nm 2) (ret (.int 7))) (ret (.int 1))) (fn1 lenF (consA (atN 0 (ret (.int 0))) nilA)))) (op2 addF (op2 powI (ret (.int 10)) (ret (.int 17))) (op2 mulI (ret (.int 3)) (nm 2))))) (ret .nx)))
  (seqS (stS 0 (ret (.int 1)) (op2 addF (nm 2) (ret (.int 1))))
  (stS 0 (ret (.int 2)) (fn1 (cvF pt) (consA (nm 3) (consA (nm 2) nilA)))))))) (ret .nx))
  (seqS (setV 4 (op2 modI (atN 0 (ret (.int 2))) (nm 1)))
  (seqS (stS 0 (ret (.int 2)) (op2 divI (atN 0 (ret (.int 2))) (nm 1)))
  (retS (nm 4)))))
noncomputable def nh:List R->Option (R×List R):=fnD 5 2 qJ
noncomputable def uZ:M Fl :=
 (seqS (setV 3 (frz (compO 2 (fn1 zipI (consA (nm 1) (consA (nm 2) nilA))) (tgTup 2 (tgCons (tgN 0) (tgCons (tgN 1) tgNil))) (tst (nm 0)) (nm 1))))
  (seqS (ifS (orT (tst (op2 (eqF true) (fn1 lenF (consA (nm 3) nilA)) (ret (.int 1)))) (notT (tst (un1 isvF (nm 0)))))
  (retS (ret (.str "odd"))) (ret .nx))
  (retS (op2 ixF (nm 3) (ret (.int 0))))))
noncomputable def rY:List R->Option (R×List R):=fnD 4 3 uZ
noncomputable def rM:M Fl :=
 (seqS (setO 2 (lstA nilA))
  (seqS (forS (fn1 rngI1 (consA (nm 1) nilA)) (tgN 3)
  (insS 2 (consA (cbV 0 nh (consA (op2 addF (nm 3) (ret (.int 1))) nilA)) (consA (nm 3) nilA))))
  (retS (nm 2))))
noncomputable def pE:List R->Option (R×List R):=fnD 4 2 rM
noncomputable def qQ:M Fl :=
 (seqS (setV 2 (cbV 0 nh (consA (ret (.int 4)) nilA)))
  (seqS (setV 3 (op2 addF (ret (.int 1)) (cbV 0 nh (consA (nm 1) nilA))))
  (seqS (setV 4 (cbV 0 pE (consA (nm 3) nilA)))
  (seqS (setO 5 (lstA nilA))
  (seqS (forS (fn1 rngI2 (consA (ret (.int 1)) (consA (nm 3) nilA))) (tgN 6)
  (ifS (tst (op2 geI (cbV 0 nh (consA (ret (.int 6)) nilA)) (nm 2)))
  (seqS (setV 7 (tupA (consA (op2 ixF (nm 4) (nm 6)) (consA (op2 ixF (nm 4) (cbV 0 nh (consA (nm 6) nilA))) nilA))))
  (appS 5 (tupA (consA (fn1 minTF (consA (nm 7) nilA)) (consA (fn1 maxTF (consA (nm 7) nilA)) nilA))))) (ret .nx)))
  (retS (tupA (consA (nm 3) (consA (fn1 tupF (consA (frz (fn1 sortF (consA (nm 5) nilA))) nilA)) nilA)))))))))
noncomputable def qH:List R->Option (R×List R):=fnD 8 2 qQ
noncomputable def rX:M Fl :=
 (seqS (setV 2 (frz (op2 catF (frz (compO 2 (itS (op2 ixF (nm 0) (ret (.int 1)))) (tgTup 2 (tgCons (tgN 0) (tgCons (tgN 1) tgNil))) (tst (op2 (eqF false) (nm 0) (nm 3))) (nm 1))) (frz (compO 2 (itS (op2 ixF (nm 0) (ret (.int 1)))) (tgTup 2 (tgCons (tgN 0) (tgCons (tgN 1) tgNil))) (tst (op2 (eqF false) (nm 1) (nm 3))) (nm 0))))))
  (retO (fn1 sortF (consA (nm 2) nilA))))
noncomputable def oW:List R->Option (R×List R):=fnD 3 2 rX
noncomputable def v9:M Fl :=
 (seqS (setO 1 (lstA (consA (un1 (isxF "NoKin") (nm 0)) (consA (un1 (isxF "NoHouse") (nm 0)) (consA (un1 (isxF "NoRoad") (nm 0)) nilA)))))
  (seqS (setO 1 (op2 catF (nm 1) (frz (lstA (consA (un1 (isxF "Ring") (nm 0)) (consA (un1 (isxF "NoHold") (nm 0)) (consA (un1 (isxF "NoLetter") (nm 0)) nilA)))))))
  (seqS (setO 1 (op2 catF (nm 1) (frz (lstA (consA (un1 (isxF "NoStep") (nm 0)) (consA (un1 (isxF "NoText") (nm 0)) (consA (un1 (isxF "NoRow") (nm 0)) nilA)))))))
  (seqS (appS 1 (un1 (isxF "NoLog") (nm 0)))
  (seqS (setV 2 (frz (lstA (consA (ret (.str "kin")) (consA (ret (.str "house")) (consA (ret (.str "road")) (consA (ret (.str "ring")) (consA (ret (.str "hold")) (consA (ret (.str "letter")) (consA (ret (.str "step")) (consA (ret (.str "text")) (consA (ret (.str "row")) (consA (ret (.str "log")) nilA)))))))))))))
  (retS (fn1 (cvF rY) (consA (nm 0) (consA (nm 1) (consA (nm 2) nilA))))))))))
noncomputable def nB:List R->Option (R×List R):=fnD 3 1 v9
noncomputable def pw:M Fl :=
 (seqS (setV 4 (ret .non))
  (seqS (tryE (ifS (tst (op2 (eqF false) (nm 0) (ret (.int 0))))
  (dropS (frz (fn1 (coF nQ) (consA (nm 1) (consA (nm 2) nilA))))) (ifS (tst (op2 (eqF false) (nm 0) (ret (.int 1))))
  (dropS (altM (frz (fn1 (coF oQ) (consA (nm 1) (consA (nm 2) (consA (nm 3) nilA))))) (fn1 (cvF oQ) (consA (nm 1) (consA (nm 2) (consA (nm 3) nilA)))))) (dropS (frz (fn1 (coF p8) (consA (nm 1) (consA (nm 2) (consA (nm 3) nilA)))))))) (ifX (tst (op2 (eqF false) (nm 0) (ret (.int 0))))
  (fnX pj (consA (nm 1) (consA (nm 2) nilA))) (ifX (tst (op2 (eqF false) (nm 0) (ret (.int 1))))
  (fnX pe (consA (nm 1) (consA (nm 2) (consA (nm 3) nilA)))) (fnX om (consA (nm 1) (consA (nm 2) (consA (nm 3) nilA)))))) 5 4)
  (retS (ifV (tst (op2 (isNF false) (nm 4) (ret .non))) (ret (.str "told")) (fn1 (cvF nB) (consA (nm 4) nilA))))))
noncomputable def nX:List R->Option (R×List R):=fnD 6 4 pw
noncomputable def qV:M Fl :=
 (seqS (setV 1 (cbV 0 nh (consA (ret (.int 1000)) nilA)))
  (seqS (setV 2 (frz (lstA (consA (mkE "NoKin" (consA (ret (.str "a")) nilA)) (consA (mkE "NoHouse" (consA (ret (.str "b")) nilA)) (consA (mkE "NoRoad" (consA (ret (.str "c")) nilA)) (consA (mkE "Ring" (consA (ret (.str "d")) nilA)) (consA (mkE "NoHold" (consA (ret (.str "e")) nilA)) (consA (mkE "NoLetter" (consA (ret (.str "f")) nilA)) (consA (mkE "NoStep" (consA (ret (.str "g")) nilA)) (consA (mkE "NoText" (consA (ret (.str "h")) nilA)) nilA)))))))))))
  (seqS (setV 2 (frz (op2 catF (nm 2) (frz (lstA (consA (mkE "NoRow" (consA (ret (.str "i")) nilA)) (consA (un1 mkLF (nm 1)) nilA)))))))
  (seqS (setV 3 (frz (lstA (consA (ret (.str "kin")) (consA (ret (.str "house")) (consA (ret (.str "road")) (consA (ret (.str "ring")) (consA (ret (.str "hold")) (consA (ret (.str "letter")) (consA (ret (.str "step")) (consA (ret (.str "text")) (consA (ret (.str "row")) (consA (ret (.str "log")) nilA)))))))))))))
  (seqS (ifS (orT (tst (op2 (eqF true) (frz (compO 1 (itS (nm 2)) (tgN 0) (ret true) (fn1 (cvF nB) (consA (nm 0) nilA)))) (nm 3))) (notT (tst (fn1 allF (consA (frz (compO 1 (itS (nm 2)) (tgN 0) (ret true) (un1 (isxF "RoofError") (nm 0)))) nilA)))))
  (retS (ret (.bl false))) (ret .nx))
  (retS (op2 (eqF false) (un1 numF (op2 ixF (nm 2) (un1 negI (ret (.int 1))))) (nm 1))))))))
noncomputable def p6:List R->Option (R×List R):=fnD 4 1 qV
noncomputable def rF:M Fl :=
 (seqS (forS (itS (sl3 slF (frz (lstA (consA (nm 2) (consA (nm 3) nilA)))) (ret none) (prt (op2 addF (ret (.int 1)) (fn1 intBF (consA (op2 gtI (nm 0) (ret (.int 0))) nilA)))))) (tgN 4)
  (ifS (notT (tst (chn leI ltI (ret (.int 0)) (nm 4) (op2 ixF (nm 1) (ret (.int 0))))))
  (retS (ret (.str "house"))) (ret .nx)))
  (retS (ifV (andT (tst (op2 (eqF false) (nm 0) (ret (.int 2)))) (tst (op2 (inF true) (nm 3) (frz (fn1 (coF oW) (consA (nm 1) (consA (nm 2) nilA))))))) (ret (.str "road")) (ret (.str "told")))))
noncomputable def pX:List R->Option (R×List R):=fnD 5 4 rF
noncomputable def sE:M Fl :=
 (seqS (setO 1 (fn1 (coF oY) (consA (nm 0) nilA)))
  (seqS (ifS (notT (tst (cbV 1 p6 nilA)))
  (retS (ret (.bl false))) (ret .nx))
  (seqS (forS (fn1 rngI1 (consA (ret (.int 3)) nilA)) (tgN 2)
  (seqS (setV 3 (cbV 1 qH (consA (ret (.int 8)) nilA)))
  (seqS (setV 4 (cbV 1 nh (consA (op2 powI (ret (.int 10)) (ret (.int 20))) nilA)))
  (seqS (setV 5 (frz (op2 catF (frz (fn1 rngI1 (consA (op2 ixF (nm 3) (ret (.int 0))) nilA))) (frz (lstA (consA (un1 negI (ret (.int 1))) (consA (op2 ixF (nm 3) (ret (.int 0))) (consA (op2 addF (op2 addF (op2 ixF (nm 3) (ret (.int 0))) (ret (.int 1))) (nm 4)) (consA (op2 subI (un1 negI (ret (.int 2))) (nm 4)) (consA (un1 negI (op2 ixF (nm 3) (ret (.int 0)))) nilA))))))))))
  (forS (itS (nm 5)) (tgN 6)
  (forS (itS (nm 5)) (tgN 7)
  (forS (fn1 rngI1 (consA (ret (.int 3)) nilA)) (tgN 8)
  (ifS (tst (op2 (eqF true) (fn1 (cvF nX) (consA (nm 8) (consA (nm 3) (consA (nm 6) (consA (nm 7) nilA))))) (fn1 (cvF pX) (consA (nm 8) (consA (nm 3) (consA (nm 6) (consA (nm 7) nilA)))))))
  (retS (ret (.bl false))) (ret .nx)))))))))
  (retS (ret (.bl true))))))
noncomputable def n9:List R->Option (R×List R):=fnD 9 1 sE
theorem nk {N:List Str} (h:decide N.Nodup=true:=by kernel_rfl):N.Nodup:=of_decide_eq_true h
theorem en (i:Nat){X:Cx}{B:BB}{x:Str}{pos:Pos} (hN:X.N[i]?=some x:=by rfl) (hv:visB X.env.scope x=true:=by rfl) (hd:(x == ("__debug__":Str))=false:=by decide) (bh:(x == ("__classdict__":Str))=false:=by decide):ED X B (.Name x pos) (nm i):=sP (pv i hN hv hd bh)
noncomputable def top (i:Nat):Stmt:=PySem.Challenge.pw_roofpost_k26_webs_refused.main.body.getD i (.Pass ⟨0,0,0,0⟩)
noncomputable abbrev qz:Stmt:=top 13
noncomputable abbrev pO:Stmt:=top 14
noncomputable abbrev qt:Stmt:=top 15
noncomputable abbrev qe:Stmt:=top 16
noncomputable abbrev pW:Stmt:=top 17
noncomputable abbrev qp:Stmt:=top 18
noncomputable abbrev pP:Stmt:=top 19
noncomputable abbrev qM:Stmt:=top 21
noncomputable abbrev rG:Stmt:=top 22
noncomputable abbrev sh:Stmt:=top 23
noncomputable abbrev si:Stmt:=top 24
noncomputable abbrev rl:Stmt:=top 25
noncomputable abbrev sk:Stmt:=top 26
noncomputable abbrev qO:Stmt:=top 27
noncomputable abbrev rm:Stmt:=top 28
noncomputable abbrev sg:Stmt:=top 29
noncomputable abbrev rc:Stmt:=top 30
noncomputable abbrev rD:Stmt:=top 31
noncomputable abbrev rq:Stmt:=top 32
structure CdX (P:Program) (w:World) (K:PySem.W.Frag) (mg:Str->Option Value) (base:Heap) (cl:Nat->Addr) (k:Nat) (f:Addr) (fd:FuncData) (ps:List Str) (gx:List D->Option Nat) (x:Str):Prop where
 G:FnOk P w K mg base (CXX P w) k f fd ps (spE K cl gx)
 b:Binds K fd ps []
 p:PySem.W.keepIn K (.ref f)=true
 m:mg x=some (.ref f)
theorem cqX {X:Cx}{B:BB}{cl:Nat->Addr}{e:Expr}{es:List Expr}{pos p:Pos}{k kr:Nat}{f:Addr}{fd:FuncData}{ps:List Str}{x:Str}{gx:List D->Option Nat}{t:M (List D)} (G:CdX X.prog X.w X.K X.mg X.base cl k f fd ps gx x) (hr:Room kr X.A) (ha:AD X B (e::es) t) (hk:k<=kr:=by decide) (hg:Gl X x:=by exact rfl) (aM:(x == ("__debug__":Str))=false:=by decide) (he:starEach (e::es) X.env=(false,eval e X.env)::starEach es X.env:=by rfl) (az:(backTo pos (starEach es X.env)).any (·.1)=false:=by rfl):XD X B cl (.Call (.Name x p) (e::es) [] pos) (fnX gx t):=Bo G.G (hr.mono hk) hg G.m G.p G.b ha aM he az
structure Cd (P:Program) (w:World) (K:PySem.W.Frag) (mg:Str->Option Value) (base:Heap) (k:Nat) (f:Addr) (fd:FuncData) (ps:List Str) (g:List R->Option (R×List R)) (x:Str):Prop where
 G:FnOk P w K mg base CX0 k f fd ps (spD K g)
 b:Binds K fd ps []
 p:PySem.W.keepIn K (.ref f)=true
 m:mg x=some (.ref f)
abbrev oK (P w K mg base f fd):=Cd P w K mg base 2 f fd ["web", "house"] mQ "must_be_house"
abbrev vi (P w K mg base f fd):=Cd P w K mg base 4 f fd ["web", "one", "other"] pV "must_be_road"
abbrev n4 (P w K mg base f fd):=Cd P w K mg base 3 f fd ["web", "house"] nQ "neighbours_of"
abbrev AL (P w K mg base f fd):=Cd P w K mg base 26 f fd ["web", "one", "other"] oQ "way_between"
abbrev uT (P w K mg base f fd):=Cd P w K mg base 25 f fd ["web", "came", "house", "other"] (nI 20) "way_on"
abbrev wL (P w K mg base f fd):=Cd P w K mg base 26 f fd ["web", "house", "neighbour"] p8 "houses_behind"
abbrev u6 (P w K mg base f fd):=Cd P w K mg base 25 f fd ["web", "came", "house"] (nP 20) "houses_from"
abbrev Af (P w K mg base f fd):=Cd P w K mg base 2 f fd ["cell", "at"] pt "_law_blend"
abbrev zB (P w K mg base f fd):=Cd P w K mg base 2 f fd ["script"] oY "_law_pot"
abbrev pZ (P w K mg base f fd):=Cd P w K mg base 3 f fd ["pot", "many"] nh "_law_pick"
abbrev BL (P w K mg base f fd):=Cd P w K mg base 2 f fd ["caught", "kinds", "names"] rY "_law_kind"
abbrev B0 (P w K mg base f fd):=Cd P w K mg base 4 f fd ["pot", "many"] pE "_law_order"
abbrev BF (P w K mg base f fd):=Cd P w K mg base 5 f fd ["pot", "most"] qH "_law_web"
abbrev zK (P w K mg base f fd):=Cd P w K mg base 2 f fd ["web", "house"] oW "_law_near"
abbrev vL (P w K mg base f fd):=Cd P w K mg base 3 f fd ["caught"] nB "_law_named"
abbrev z7 (P w K mg base f fd):=Cd P w K mg base 27 f fd ["way", "web", "one", "other"] nX "_law_told"
abbrev yH (P w K mg base f fd):=Cd P w K mg base 5 f fd ["pot"] p6 "_law_classes_right"
abbrev AM (P w K mg base f fd):=Cd P w K mg base 3 f fd ["way", "web", "one", "other"] pX "_law_web_due"
abbrev oA (P w K mg base cl f fd):=CdX P w K mg base cl 2 f fd ["web", "house"] nM "must_be_house"
abbrev vv (P w K mg base cl f fd):=CdX P w K mg base cl 4 f fd ["web", "one", "other"] pL "must_be_road"
abbrev yC (P w K mg base cl f fd):=CdX P w K mg base cl 3 f fd ["web", "house"] pj "neighbours_of"
abbrev zT (P w K mg base cl f fd):=CdX P w K mg base cl 26 f fd ["web", "one", "other"] pe "way_between"
abbrev ym (P w K mg base cl f fd):=CdX P w K mg base cl 26 f fd ["web", "house", "neighbour"] om "houses_behind"
noncomputable abbrev nA:Stmt:=clsDef (top 11) 0
theorem fi {K:PySem.W.Frag}{C f:Addr}{od an:Option Addr}{sl:Array (Option Value)}{oc kV dc pm cd ct:Value} (n:PySem.W.nsIn K mainGlobals "NoLog"=some (some (.ref C))) (a:PySem.W.findIn K (.ref C) "__init__"=some (some (.ref f))) (l:K.lookup f=some ⟨oc,od,.func (fnOf "__init__" "NoLog.__init__" (defArgs nA) (defBody nA) (defScope nA) .none kV dc pm an cd ct),sl⟩) (c:codeIn K cd "NoLog.__init__"=true) (k:PySem.W.keepIn K (.ref f)=true):Fun K "__init__" "NoLog.__init__" nA f (fnOf "__init__" "NoLog.__init__" (defArgs nA) (defBody nA) (defScope nA) .none kV dc pm an cd ct):=ur l c k
structure LgOk (P:Program) (w:World) (K:PySem.W.Frag) (mg:Str->Option Value) (base:Heap) (f:Addr) (fd:FuncData):Prop where
 L:XLog K f
 G:FnOk P w K mg base CX0 2 f fd ["self", "number"] (spI K)
 b:Binds K fd ["self", "number"] []
theorem zE {P:Program}{w:World}{K:PySem.W.Frag}{mg:Str->Option Value}{base:Heap}{f:Addr}{fd:FuncData} (F:Fun K "__init__" "NoLog.__init__" nA f fd) (L:XLog K f) (EX:Exs K mg):LgOk P w K mg base f fd:=⟨L,F.ok (k:=1) (N:=["self", "number"]) ⟨rfl,rfl,rfl,by decide +kernel,rfl,by decide +kernel,by decide +kernel⟩ (λvs H Q E h=>by obtain ⟨_,_,rfl,_⟩:=h;rfl) (λam A outer s H vs Q E hr h=>by
  obtain ⟨e,k,rfl,few,h1,q⟩:=h
  refine ⟨_,qA (oy (AN L rfl (EX.m "RoofError" (by decide)) (mX (pv 0) (mX (sS (by decide) (pv 1)) nW)))) (sF (A2 L (pv 0) (pv 1))),?_⟩
  exact ⟨_,rfl,_,rfl,k,rfl,few,e,_,rfl,h1,_,rfl,_,rfl,e,k,rfl,rfl,h1,q⟩),F.binds λ_ _ _ _ _ _ us hl=>match us,hl with | [_,_],_=>rfl⟩
section
variable {P:Program}{w:World}{K:PySem.W.Frag}{mg:Str->Option Value}{base:Heap}
theorem vN:FnScope ["web", "house"] ["web", "house"] (defScope qz):=⟨rfl,rfl,rfl,by decide +kernel,rfl,by decide +kernel,by decide +kernel⟩
theorem y6 {f:Addr}{fd:FuncData} (F:Fun K "must_be_house" "must_be_house" qz f fd) (EX:Exs K mg):FnOk P w K mg base CX0 2 f fd ["web", "house"] (spD K mQ) :=
 mH (k:=1) (N:=["web", "house"]) F vN sf (λam A outer s H E B hr=>mD
  (mh (mI (oz (qX l9 (en 1) (mE (en 0) l9)))
  (mh (md tG)) mO)))
theorem Cf {f:Addr}{fd:FuncData} (F:Fun K "must_be_house" "must_be_house" qz f fd) (EX:Exs K mg):FnOk P w K mg base (CXX P w) 2 f fd ["web", "house"] (spE K (clN K) nM) :=
 pC (k:=1) (N:=["web", "house"]) F vN tZ (λam A outer s H E B hr=>oJ
  (nE (qG (oz (qX l9 (en 1) (mE (en 0) l9)))
  (nE (mZ (uw rfl rfl (EX.m "NoHouse" (by decide)) (EX.xc "NoHouse" (by decide)) (gk (BP (by decide) (en 1)) io rfl)))) t8)))
theorem u8:FnScope ["web", "one", "other"] ["web", "one", "other"] (defScope pO):=⟨rfl,rfl,rfl,by decide +kernel,rfl,by decide +kernel,by decide +kernel⟩
theorem wB {f:Addr}{fd:FuncData} (F:Fun K "must_be_road" "must_be_road" pO f fd) {aw' av'} (aB:oK P w K mg base aw' av') {as' ap'} (aJ:n4 P w K mg base as' ap') {fx_must_be_house fdx_must_be_house} (ak:oA P w K mg base (clN K) fx_must_be_house fdx_must_be_house) (EX:Exs K mg):FnOk P w K mg base CX0 4 f fd ["web", "one", "other"] (spD K pV) :=
 mH (k:=3) (N:=["web", "one", "other"]) F u8 sD (λam A outer s H E B hr=>mD
  (mf (md (mS (mC aB.G (hr.mono (by decide)) rfl aB.m aB.p aB.b (gk (en 0) (gk (en 1) io rfl) rfl))))
  (mf (md (mS (mC aB.G (hr.mono (by decide)) rfl aB.m aB.p aB.b (gk (en 0) (gk (en 2) io rfl) rfl))))
  (mh (mI (rP hr (en 2) (mw (mY aJ.G (hr.mono (by decide)) rfl aJ.m aJ.p aJ.b (gk (en 0) (gk (en 1) io rfl) rfl))))
  (mh (md tG)) mO)))))
theorem A0 {f:Addr}{fd:FuncData} (F:Fun K "must_be_road" "must_be_road" pO f fd) {aw' av'} (aB:oK P w K mg base aw' av') {as' ap'} (aJ:n4 P w K mg base as' ap') {fx_must_be_house fdx_must_be_house} (ak:oA P w K mg base (clN K) fx_must_be_house fdx_must_be_house) (EX:Exs K mg):FnOk P w K mg base (CXX P w) 4 f fd ["web", "one", "other"] (spE K (clN K) pL) :=
 pC (k:=3) (N:=["web", "one", "other"]) F u8 tm (λam A outer s H E B hr=>oJ
  (rE (md (mS (mC aB.G (hr.mono (by decide)) rfl aB.m aB.p aB.b (gk (en 0) (gk (en 1) io rfl) rfl)))) (mZ (nz (cqX ak hr (gk (en 0) (gk (en 1) io rfl) rfl))))
  (rE (md (mS (mC aB.G (hr.mono (by decide)) rfl aB.m aB.p aB.b (gk (en 0) (gk (en 2) io rfl) rfl)))) (mZ (nz (cqX ak hr (gk (en 0) (gk (en 2) io rfl) rfl))))
  (nE (qG (rP hr (en 2) (mw (mY aJ.G (hr.mono (by decide)) rfl aJ.m aJ.p aJ.b (gk (en 0) (gk (en 1) io rfl) rfl))))
  (nE (mZ (uw rfl rfl (EX.m "NoRoad" (by decide)) (EX.xc "NoRoad" (by decide)) (gk (ya (by decide) (by decide) (en 1) (en 2)) io rfl)))) t8)))))
theorem vG:FnScope ["web", "house"] ["web", "house"] (defScope qt):=⟨rfl,rfl,rfl,by decide +kernel,rfl,by decide +kernel,by decide +kernel⟩
theorem Ar {f:Addr}{fd:FuncData} (F:Fun K "neighbours_of" "neighbours_of" qt f fd) {aw' av'} (aB:oK P w K mg base aw' av') {fx_must_be_house fdx_must_be_house} (ak:oA P w K mg base (clN K) fx_must_be_house fdx_must_be_house) (aq:mg "sorted"=none):FnOk P w K mg base CX0 3 f fd ["web", "house"] (spD K nQ) :=
 mH (k:=2) (N:=["web", "house"]) F vG rO (λam A outer s H E B hr=>mD
  (mf (md (mS (mC aB.G (hr.mono (by decide)) rfl aB.m aB.p aB.b (gk (en 0) (gk (en 1) io rfl) rfl))))
  (mh (md (nV (qa hr rfl aq (gk (mw (o8 (N':=["road", "-web", "house"]) (m:=1) (CompScope.of (by kernel_rfl)) rfl (nj (mE (en 0) l9)) (λ_ _ _ _=>(gd_n (i:=0) (m:=1) nk)) (λ_ _ _ _=>(pF (xm hr (en 2) (en 0)))) (λ_ _ _ _=>(sy (ny hr (mE (en 0) l9) (en 2)) (mE (en 0) l9) (mE (en 0) l9))))) io rfl)))))))
theorem B8 {f:Addr}{fd:FuncData} (F:Fun K "neighbours_of" "neighbours_of" qt f fd) {aw' av'} (aB:oK P w K mg base aw' av') {fx_must_be_house fdx_must_be_house} (ak:oA P w K mg base (clN K) fx_must_be_house fdx_must_be_house) (aq:mg "sorted"=none):FnOk P w K mg base (CXX P w) 3 f fd ["web", "house"] (spE K (clN K) pj) :=
 pC (k:=2) (N:=["web", "house"]) F vG vZ (λam A outer s H E B hr=>oJ
  (sC (mZ (nz (cqX ak hr (gk (en 0) (gk (en 1) io rfl) rfl))))))
theorem tq:FnScope ["web", "one", "other"] ["web", "one", "other"] (defScope qe):=⟨rfl,rfl,rfl,by decide +kernel,rfl,by decide +kernel,by decide +kernel⟩
theorem zD {f:Addr}{fd:FuncData} (F:Fun K "way_between" "way_between" qe f fd) {aw' av'} (aB:oK P w K mg base aw' av') {e6' eg'} (cg:uT P w K mg base e6' eg') {fx_must_be_house fdx_must_be_house} (ak:oA P w K mg base (clN K) fx_must_be_house fdx_must_be_house):FnOk P w K mg base CX0 26 f fd ["web", "one", "other"] (spD K oQ) :=
 mH (k:=25) (N:=["web", "one", "other"]) F tq rW (λam A outer s H E B hr=>mD
  (mf (md (mS (mC aB.G (hr.mono (by decide)) rfl aB.m aB.p aB.b (gk (en 0) (gk (en 1) io rfl) rfl))))
  (mf (md (mS (mC aB.G (hr.mono (by decide)) rfl aB.m aB.p aB.b (gk (en 0) (gk (en 2) io rfl) rfl))))
  (mh (md (Bh (nV (mY cg.G (hr.mono (by decide)) rfl cg.m cg.p cg.b (nC (en 0) oj (en 1) (en 2) io rfl rfl rfl rfl))) (mF (mC cg.G (hr.mono (by decide)) rfl cg.m cg.p cg.b (nC (en 0) oj (en 1) (en 2) io rfl rfl rfl rfl)))))))))
theorem Bn {f:Addr}{fd:FuncData} (F:Fun K "way_between" "way_between" qe f fd) {aw' av'} (aB:oK P w K mg base aw' av') {e6' eg'} (cg:uT P w K mg base e6' eg') {fx_must_be_house fdx_must_be_house} (ak:oA P w K mg base (clN K) fx_must_be_house fdx_must_be_house):FnOk P w K mg base (CXX P w) 26 f fd ["web", "one", "other"] (spE K (clN K) pe) :=
 pC (k:=25) (N:=["web", "one", "other"]) F tq vE (λam A outer s H E B hr=>oJ
  (rE (md (mS (mC aB.G (hr.mono (by decide)) rfl aB.m aB.p aB.b (gk (en 0) (gk (en 1) io rfl) rfl)))) (mZ (nz (cqX ak hr (gk (en 0) (gk (en 1) io rfl) rfl))))
  (sC (mZ (nz (cqX ak hr (gk (en 0) (gk (en 2) io rfl) rfl)))))))
theorem zp:FnScope ["web", "came", "house", "other", "neighbour", "way"] ["web", "came", "house", "other"] (defScope pW):=⟨rfl,rfl,rfl,by decide +kernel,rfl,by decide +kernel,by decide +kernel⟩
theorem AT {g:List R->Option (R×List R)}{kk:Nat} (hk:4<=kk){f:Addr}{fd:FuncData} (F:Fun K "way_on" "way_on" pW f fd) (G:FnOk P w K mg base CX0 kk f fd ["web", "came", "house", "other"] (spD K g)) {as' ap'} (aJ:n4 P w K mg base as' ap') (eA:Binds K fd ["web", "came", "house", "other"] []) (eB:PySem.W.keepIn K (.ref f)=true) (eC:mg "way_on"=some (.ref f)):FnOk P w K mg base CX0 (kk+1) f fd ["web", "came", "house", "other"] (spD K (fnD 6 4 (qC g))) :=
 mH (N:=["web", "came", "house", "other", "neighbour", "way"]) F zp (qC g) (λam A outer s H E B hr=>mD
  (mf (mI (ny hr (en 2) (en 3))
  (mh (md (nV (mJ (gk (en 2) io rfl))))) mO)
  (mf (nc never rfl (nj (mw (mY aJ.G (hr.mono (le_trans (by decide) hk)) rfl aJ.m aJ.p aJ.b (gk (en 0) (gk (en 2) io rfl) rfl)))) (gd_n (i:=4) (m:=100) nk)
  (mh (mI (oq hr (en 4) (en 1))
  (mf (mB (i:=5) nk (uR (mw (mY G hr rfl eC eB eA (nC (en 0) (en 2) (en 4) (en 3) io rfl rfl rfl rfl))) (mC G hr rfl eC eB eA (nC (en 0) (en 2) (en 4) (en 3) io rfl rfl rfl rfl))))
  (mh (mI (xN (en 5) oj)
  (mh (md (nV (ow (mw (mJ (gk (en 2) io rfl))) (en 5))))) mO))) mO)))
  (mh (md (mF oj))))))
theorem sU {f:Addr}{fd:FuncData} (F:Fun K "way_on" "way_on" pW f fd) {as' ap'} (aJ:n4 P w K mg base as' ap') (eA:Binds K fd ["web", "came", "house", "other"] []) (eB:PySem.W.keepIn K (.ref f)=true) (eC:mg "way_on"=some (.ref f)):∀ n:Nat,FnOk P w K mg base CX0 (5+n) f fd ["web", "came", "house", "other"] (spD K (nI n))
 | 0=>oZ
 | n+1=>AT (le_trans (by decide) (le_add_right _ n)) F (sU F aJ eA eB eC n) aJ eA eB eC
theorem vj:FnScope ["web", "house", "neighbour"] ["web", "house", "neighbour"] (defScope qp):=⟨rfl,rfl,rfl,by decide +kernel,rfl,by decide +kernel,by decide +kernel⟩
theorem z8 {f:Addr}{fd:FuncData} (F:Fun K "houses_behind" "houses_behind" qp f fd) {ck' cb'} (eD:vi P w K mg base ck' cb') {cA' cl'} (eE:u6 P w K mg base cA' cl') {fx_must_be_road fdx_must_be_road} (bg:vv P w K mg base (clN K) fx_must_be_road fdx_must_be_road) (aq:mg "sorted"=none):FnOk P w K mg base CX0 26 f fd ["web", "house", "neighbour"] (spD K p8) :=
 mH (k:=25) (N:=["web", "house", "neighbour"]) F vj rV (λam A outer s H E B hr=>mD
  (mf (md (mS (mC eD.G (hr.mono (by decide)) rfl eD.m eD.p eD.b (gk (en 0) (gk (en 1) (gk (en 2) io rfl) rfl) rfl))))
  (mh (md (nV (qa hr rfl aq (gk (mC eE.G (hr.mono (by decide)) rfl eE.m eE.p eE.b (gk (en 0) (gk (en 1) (gk (en 2) io rfl) rfl) rfl)) io rfl)))))))
theorem Am {f:Addr}{fd:FuncData} (F:Fun K "houses_behind" "houses_behind" qp f fd) {ck' cb'} (eD:vi P w K mg base ck' cb') {cA' cl'} (eE:u6 P w K mg base cA' cl') {fx_must_be_road fdx_must_be_road} (bg:vv P w K mg base (clN K) fx_must_be_road fdx_must_be_road) (aq:mg "sorted"=none):FnOk P w K mg base (CXX P w) 26 f fd ["web", "house", "neighbour"] (spE K (clN K) om) :=
 pC (k:=25) (N:=["web", "house", "neighbour"]) F vj vV (λam A outer s H E B hr=>oJ
  (sC (mZ (nz (cqX bg hr (gk (en 0) (gk (en 1) (gk (en 2) io rfl) rfl) rfl))))))
theorem wV:FnScope ["web", "came", "house", "houses", "neighbour"] ["web", "came", "house"] (defScope pP):=⟨rfl,rfl,rfl,by decide +kernel,rfl,by decide +kernel,by decide +kernel⟩
theorem xg {g:List R->Option (R×List R)}{kk:Nat} (hk:4<=kk){f:Addr}{fd:FuncData} (F:Fun K "houses_from" "houses_from" pP f fd) (G:FnOk P w K mg base CX0 kk f fd ["web", "came", "house"] (spD K g)) {as' ap'} (aJ:n4 P w K mg base as' ap') (ff:Binds K fd ["web", "came", "house"] []) (fg:PySem.W.keepIn K (.ref f)=true) (fh:mg "houses_from"=some (.ref f)):FnOk P w K mg base CX0 (kk+1) f fd ["web", "came", "house"] (spD K (fnD 5 3 (p7 g))) :=
 mH (N:=["web", "came", "house", "houses", "neighbour"]) F wV (p7 g) (λam A outer s H E B hr=>mD
  (mf (md (nT (i:=3) nk (mJ (gk (en 2) io rfl))))
  (mf (nc never rfl (nj (mw (mY aJ.G (hr.mono (le_trans (by decide) hk)) rfl aJ.m aJ.p aJ.b (gk (en 0) (gk (en 2) io rfl) rfl)))) (gd_n (i:=4) (m:=100) nk)
  (mh (mI (oq hr (en 4) (en 1))
  (mh (md (B7 (pv 3) (mC G hr rfl fh fg ff (gk (en 0) (gk (en 2) (gk (en 4) io rfl) rfl) rfl))))) mO)))
  (mh (md (mF (en 3)))))))
theorem t5 {f:Addr}{fd:FuncData} (F:Fun K "houses_from" "houses_from" pP f fd) {as' ap'} (aJ:n4 P w K mg base as' ap') (ff:Binds K fd ["web", "came", "house"] []) (fg:PySem.W.keepIn K (.ref f)=true) (fh:mg "houses_from"=some (.ref f)):∀ n:Nat,FnOk P w K mg base CX0 (5+n) f fd ["web", "came", "house"] (spD K (nP n))
 | 0=>oZ
 | n+1=>xg (le_trans (by decide) (le_add_right _ n)) F (t5 F aJ ff fg fh n) aJ ff fg fh
theorem Bl:FnScope ["cell", "at", "one", "two", "three"] ["cell", "at"] (defScope qM):=⟨rfl,rfl,rfl,by decide +kernel,rfl,by decide +kernel,by decide +kernel⟩
theorem zU {f:Addr}{fd:FuncData} (F:Fun K "_law_blend" "_law_blend" qM f fd) :FnOk P w K mg base CX0 2 f fd ["cell", "at"] (spD K pt) :=
 mH (k:=1) (N:=["cell", "at", "one", "two", "three"]) F Bl qL (λam A outer s H E B hr=>mD
  (mf (mI (v6 (en 0) (pJ l9 l9))
  (mh (md (mF (en 0)))) mO)
  (mf (mB (i:=2) nk (m9 (mK (mK (m7 (m9 (en 0) l9) l9) (m7 (en 1) l9)) l9) l9))
  (mf (mB (i:=3) nk (m9 (mK (mK (m7 (en 2) (en 2)) (m7 (en 1) l9)) (m9 (en 0) l9)) l9))
  (mf (mB (i:=4) nk (m9 (mK (mK (m7 (en 3) (en 3)) (m7 (en 2) l9)) l9) l9))
  (mh (md (mF (mK (m7 (mK (m7 (en 2) l9) (en 3)) l9) (en 4))))))))))
theorem BC:FnScope ["script", "cells", "k", "cell"] ["script"] (defScope rG):=⟨rfl,rfl,rfl,by decide +kernel,rfl,by decide +kernel,by decide +kernel⟩
theorem yD {f:Addr}{fd:FuncData} (F:Fun K "_law_pot" "_law_pot" rG f fd) (bj:mg "list"=none) (bf:mg "enumerate"=none):FnOk P w K mg base CX0 2 f fd ["script"] (spD K oY) :=
 mH (k:=1) (N:=["script", "cells", "k", "cell"]) F BC rn (λam A outer s H E B hr=>mD
  (mf (md (nT (i:=1) nk (zq rfl bj (gk (sx (en 0) v8 (pN l9)) io rfl))))
  (mf (nc never rfl (xA rfl bf (gk (sx (en 0) (pN l9) (pN l9)) io rfl)) (qs (m:=100) rfl (nN (gd_n (i:=2) (m:=100) nk) (nN (gd_n (i:=3) (m:=100) nk) qc)))
  (mh (md (qf (pv 1) (m9 (en 2) l9) (mK (nr (pv 1) (m9 (en 2) l9)) (en 3))))))
  (mh (md (nV (mJ (gk (en 1) (gk l9 (gk l9 io rfl) rfl) rfl))))))))
theorem B1:FnScope ["pot", "many", "at", "cell", "found"] ["pot", "many"] (defScope sh):=⟨rfl,rfl,rfl,by decide +kernel,rfl,by decide +kernel,by decide +kernel⟩
theorem BJ {f:Addr}{fd:FuncData} (F:Fun K "_law_pick" "_law_pick" sh f fd) {hS' hC'} (fj:Af P w K mg base hS' hC') (bt:mg "len"=none):FnOk P w K mg base CX0 3 f fd ["pot", "many"] (spD K nh) :=
 mH (k:=2) (N:=["pot", "many", "at", "cell", "found"]) F B1 qJ (λam A outer s H E B hr=>mD
  (mf (mI (uI (nr (pv 0) l9) (en 1))
  (mf (mB (i:=2) nk (nr (pv 0) l9))
  (mf (mB (i:=3) nk (m7 l9 (en 2)))
  (mf (mI (uI (en 2) (qN rfl bt (gk (nr (pv 0) l9) io rfl)))
  (mh (mB (i:=3) nk (mE (nr (pv 0) l9) (en 2)))) (mh (mI (oq hr (nr (pv 0) l9) (mw (mJ io)))
  (mh (mB (i:=3) nk (m9 (mE (nr (pv 0) l9) (m9 (mK (m7 (en 2) l9) l9) (qN rfl bt (gk (nr (pv 0) l9) io rfl)))) (mK (pJ l9 l9) (m7 l9 (en 2)))))) mO)))
  (mf (md (qf (pv 0) l9 (mK (en 2) l9)))
  (mh (md (qf (pv 0) l9 (mC fj.G (hr.mono (by decide)) rfl fj.m fj.p fj.b (gk (en 3) (gk (en 2) io rfl) rfl))))))))) mO)
  (mf (mB (i:=4) nk (m9 (nr (pv 0) l9) (en 1)))
  (mf (md (qf (pv 0) l9 (z0 (nr (pv 0) l9) (en 1))))
  (mh (md (mF (en 4))))))))
theorem wn:FnScope ["caught", "kinds", "names", "found"] ["caught", "kinds", "names"] (defScope si):=⟨rfl,rfl,rfl,by decide +kernel,rfl,by decide +kernel,by decide +kernel⟩
theorem zX {f:Addr}{fd:FuncData} (F:Fun K "_law_kind" "_law_kind" si f fd) (EX:Exs K mg) (cU:mg "zip"=none) (ah:mg "isinstance"=none) (aU:mg "ValueError"=none) (bt:mg "len"=none):FnOk P w K mg base CX0 2 f fd ["caught", "kinds", "names"] (spD K rY) :=
 mH (k:=1) (N:=["caught", "kinds", "names", "found"]) F wn uZ (λam A outer s H E B hr=>mD
  (mf (md (wE (i:=3) (N':=["kind", "name", "-caught", "-kinds", "-names", "-found"]) (m:=2) (CompScope.of (by kernel_rfl)) rfl nk (AU rfl cU (gk (en 1) (gk (en 2) io rfl) rfl)) (λ_ _ _ _=>(qs (m:=2) rfl (nN (gd_n (i:=0) (m:=2) nk) (nN (gd_n (i:=1) (m:=2) nk) qc)))) (λ_ _ _ _=>(pF (pQ (en 0)))) (λ_ _ _ _=>(en 1))))
  (mf (mI (TW.td (uW (oq hr (qN rfl bt (gk (en 3) io rfl)) l9) (sW (oz (pQ (Cc EX.tab rfl ah rfl aU (en 0)))))))
  (mh (md (mF mM))) mO)
  (mh (md (mF (mE (en 3) l9)))))))
theorem Ak:FnScope ["pot", "many", "order", "k"] ["pot", "many"] (defScope rl):=⟨rfl,rfl,rfl,by decide +kernel,rfl,by decide +kernel,by decide +kernel⟩
theorem xt {f:Addr}{fd:FuncData} (F:Fun K "_law_order" "_law_order" rl f fd) {be' a6'} (aG:pZ P w K mg base be' a6') (aD:mg "range"=none):FnOk P w K mg base CX0 4 f fd ["pot", "many"] (spD K pE) :=
 mH (k:=3) (N:=["pot", "many", "order", "k"]) F Ak rM (λam A outer s H E B hr=>mD
  (mf (md (nT (i:=2) nk (mJ io)))
  (mf (nc never rfl (rS rfl aD (gk (en 1) io rfl)) (gd_n (i:=3) (m:=100) nk)
  (mh (md (yM (pv 2) (gk (nn aG.G (hr.mono (by decide)) rfl aG.m aG.p aG.b (pv 0) (gk (mK (en 3) l9) io rfl)) (gk (en 3) io rfl) rfl)))))
  (mh (md (mF (en 2)))))))
theorem Ce:FnScope ["pot", "most", "often", "many", "order", "roads", "k", "pair"] ["pot", "most"] (defScope sk):=⟨rfl,rfl,rfl,by decide +kernel,rfl,by decide +kernel,by decide +kernel⟩
theorem yE {f:Addr}{fd:FuncData} (F:Fun K "_law_web" "_law_web" sk f fd) {be' a6'} (aG:pZ P w K mg base be' a6') {hT' hD'} (fk:B0 P w K mg base hT' hD') (aD:mg "range"=none) (cV:mg "min"=none) (cW:mg "max"=none) (aq:mg "sorted"=none) (bU:mg "tuple"=none):FnOk P w K mg base CX0 5 f fd ["pot", "most"] (spD K qH) :=
 mH (k:=4) (N:=["pot", "most", "often", "many", "order", "roads", "k", "pair"]) F Ce qQ (λam A outer s H E B hr=>mD
  (mf (mB (i:=2) nk (nn aG.G (hr.mono (by decide)) rfl aG.m aG.p aG.b (pv 0) (gk l9 io rfl)))
  (mf (mB (i:=3) nk (mK l9 (nn aG.G (hr.mono (by decide)) rfl aG.m aG.p aG.b (pv 0) (gk (en 1) io rfl))))
  (mf (mB (i:=4) nk (nn fk.G (hr.mono (by decide)) rfl fk.m fk.p fk.b (pv 0) (gk (en 3) io rfl)))
  (mf (md (nT (i:=5) nk (mJ io)))
  (mf (nc never rfl (Ay rfl aD (gk l9 (gk (en 3) io rfl) rfl)) (gd_n (i:=6) (m:=100) nk)
  (mh (mI (v6 (nn aG.G (hr.mono (by decide)) rfl aG.m aG.p aG.b (pv 0) (gk l9 io rfl)) (en 2))
  (mf (mB (i:=7) nk (pR (gk (mE (en 4) (en 6)) (gk (mE (en 4) (nn aG.G (hr.mono (by decide)) rfl aG.m aG.p aG.b (pv 0) (gk (en 6) io rfl))) io rfl) rfl)))
  (mh (md (sN (pv 5) (pR (gk (AB rfl rfl cV (gk (en 7) io rfl)) (gk (B3 rfl rfl cW (gk (en 7) io rfl)) io rfl) rfl)))))) mO)))
  (mh (md (mF (pR (gk (en 3) (gk (BQ rfl bU (gk (mw (qa hr rfl aq (gk (en 5) io rfl))) io rfl)) io rfl) rfl)))))))))))
theorem Ax:FnScope ["web", "house", "found"] ["web", "house"] (defScope qO):=⟨rfl,rfl,rfl,by decide +kernel,rfl,by decide +kernel,by decide +kernel⟩
theorem wA {f:Addr}{fd:FuncData} (F:Fun K "_law_near" "_law_near" qO f fd) (aq:mg "sorted"=none):FnOk P w K mg base CX0 2 f fd ["web", "house"] (spD K oW) :=
 mH (k:=1) (N:=["web", "house", "found"]) F Ax rX (λam A outer s H E B hr=>mD
  (mf (mB (i:=2) nk (mw (ow (mw (o8 (N':=["one", "other", "-web", "house", "-found"]) (m:=2) (CompScope.of (by kernel_rfl)) rfl (nj (mE (en 0) l9)) (λ_ _ _ _=>(qs (m:=2) rfl (nN (gd_n (i:=0) (m:=2) nk) (nN (gd_n (i:=1) (m:=2) nk) qc)))) (λ_ _ _ _=>(pF (ny hr (en 0) (en 3)))) (λ_ _ _ _=>(en 1)))) (mw (o8 (N':=["one", "other", "-web", "house", "-found"]) (m:=2) (CompScope.of (by kernel_rfl)) rfl (nj (mE (en 0) l9)) (λ_ _ _ _=>(qs (m:=2) rfl (nN (gd_n (i:=0) (m:=2) nk) (nN (gd_n (i:=1) (m:=2) nk) qc)))) (λ_ _ _ _=>(pF (ny hr (en 1) (en 3)))) (λ_ _ _ _=>(en 0)))))))
  (mh (md (nV (qa hr rfl aq (gk (en 2) io rfl)))))))
theorem Cb:FnScope ["caught", "kinds", "names"] ["caught"] (defScope rm):=⟨rfl,rfl,rfl,by decide +kernel,rfl,by decide +kernel,by decide +kernel⟩
theorem AZ {f:Addr}{fd:FuncData} (F:Fun K "_law_named" "_law_named" rm f fd) {i3' hU'} (fm:BL P w K mg base i3' hU') (EX:Exs K mg) (ah:mg "isinstance"=none):FnOk P w K mg base CX0 3 f fd ["caught"] (spD K nB) :=
 mH (k:=2) (N:=["caught", "kinds", "names"]) F Cb v9 (λam A outer s H E B hr=>mD
  (mf (md (nT (i:=1) nk (mJ (gk (mW EX.tab rfl ah rfl (EX.m "NoKin" (by decide)) (en 0)) (gk (mW EX.tab rfl ah rfl (EX.m "NoHouse" (by decide)) (en 0)) (gk (mW EX.tab rfl ah rfl (EX.m "NoRoad" (by decide)) (en 0)) io rfl) rfl) rfl))))
  (mf (md (nT (i:=1) nk (ow (en 1) (mw (mJ (gk (mW EX.tab rfl ah rfl (EX.m "Ring" (by decide)) (en 0)) (gk (mW EX.tab rfl ah rfl (EX.m "NoHold" (by decide)) (en 0)) (gk (mW EX.tab rfl ah rfl (EX.m "NoLetter" (by decide)) (en 0)) io rfl) rfl) rfl))))))
  (mf (md (nT (i:=1) nk (ow (en 1) (mw (mJ (gk (mW EX.tab rfl ah rfl (EX.m "NoStep" (by decide)) (en 0)) (gk (mW EX.tab rfl ah rfl (EX.m "NoText" (by decide)) (en 0)) (gk (mW EX.tab rfl ah rfl (EX.m "NoRow" (by decide)) (en 0)) io rfl) rfl) rfl))))))
  (mf (md (sN (pv 1) (mW EX.tab rfl ah rfl (EX.m "NoLog" (by decide)) (en 0))))
  (mf (mB (i:=2) nk (mw (mJ (ad_k (by kernel_rfl)))))
  (mh (md (mF (mC fm.G (hr.mono (by decide)) rfl fm.m fm.p fm.b (gk (en 0) (gk (en 1) (gk (en 2) io rfl) rfl) rfl)))))))))))
theorem A6:FnScope ["way", "web", "one", "other", "caught", "e"] ["way", "web", "one", "other"] (defScope sg):=⟨rfl,rfl,rfl,by decide +kernel,rfl,by decide +kernel,by decide +kernel⟩
theorem xD {f:Addr}{fd:FuncData} (F:Fun K "_law_told" "_law_told" sg f fd) {as' ap'} (aJ:n4 P w K mg base as' ap') {gn' fZ'} (cE:AL P w K mg base gn' fZ') {fE' e7'} (fo:wL P w K mg base fE' e7') {df' cW'} (cj:vL P w K mg base df' cW') {fx_neighbours_of fdx_neighbours_of} (bF:yC P w K mg base (clN K) fx_neighbours_of fdx_neighbours_of) {fx_way_between fdx_way_between} (bV:zT P w K mg base (clN K) fx_way_between fdx_way_between) {fx_houses_behind fdx_houses_behind} (bG:ym P w K mg base (clN K) fx_houses_behind fdx_houses_behind) (EX:Exs K mg):FnOk P w K mg base CX0 27 f fd ["way", "web", "one", "other"] (spD K nX) :=
 mH (k:=26) (N:=["way", "web", "one", "other", "caught", "e"]) F A6 pw (λam A outer s H E B hr=>mD
  (mf (mB (i:=4) nk oj)
  (mf (md (Aq (i:=4) (j:=5) EX.top nk rfl rfl (EX.m "RoofError" (by decide)) (λ_ _=>mD (mh (mI (ny hr (en 0) l9)
  (mh (md (mS (mw (mY aJ.G (hr.mono (by decide)) rfl aJ.m aJ.p aJ.b (gk (en 1) (gk (en 2) io rfl) rfl)))))) (mh (mI (ny hr (en 0) l9)
  (mh (md (mS (uR (mw (mY cE.G (hr.mono (by decide)) rfl cE.m cE.p cE.b (gk (en 1) (gk (en 2) (gk (en 3) io rfl) rfl) rfl))) (mC cE.G (hr.mono (by decide)) rfl cE.m cE.p cE.b (gk (en 1) (gk (en 2) (gk (en 3) io rfl) rfl) rfl)))))) (mh (md (mS (mw (mY fo.G (hr.mono (by decide)) rfl fo.m fo.p fo.b (gk (en 1) (gk (en 2) (gk (en 3) io rfl) rfl) rfl))))))))))) (λ_ _=>oJ (nE (qG (ny hr (en 0) l9)
  (nE (mZ (nz (cqX bF hr (gk (en 1) (gk (en 2) io rfl) rfl))))) (nE (qG (ny hr (en 0) l9)
  (nE (mZ (nz (cqX bV hr (gk (en 1) (gk (en 2) (gk (en 3) io rfl) rfl) rfl))))) (nE (mZ (nz (cqX bG hr (gk (en 1) (gk (en 2) (gk (en 3) io rfl) rfl) rfl))))))))))))
  (mh (md (mF (sy (zv (en 4) oj) mM (mC cj.G (hr.mono (by decide)) rfl cj.m cj.p cj.b (gk (en 4) io rfl)))))))))
theorem wC:FnScope ["pot", "number", "some", "names"] ["pot"] (defScope rc):=⟨rfl,rfl,rfl,by decide +kernel,rfl,by decide +kernel,by decide +kernel⟩
theorem Bf {f:Addr}{fd:FuncData} (F:Fun K "_law_classes_right" "_law_classes_right" rc f fd) {be' a6'} (aG:pZ P w K mg base be' a6') {df' cW'} (cj:vL P w K mg base df' cW') (EX:Exs K mg) {f_init fd_init} (LG:LgOk P w K mg base f_init fd_init) (ah:mg "isinstance"=none) (cX:mg "all"=none):FnOk P w K mg base CX0 5 f fd ["pot"] (spD K p6) :=
 mH (k:=4) (N:=["pot", "number", "some", "names"]) F wC qV (λam A outer s H E B hr=>mD
  (mf (mB (i:=1) nk (nn aG.G (hr.mono (by decide)) rfl aG.m aG.p aG.b (pv 0) (gk l9 io rfl)))
  (mf (mB (i:=2) nk (mw (mJ (nC (nH rfl (EX.m "NoKin" (by decide)) (EX.xc "NoKin" (by decide)) (EX.kp "NoKin" (by decide)) (gk mM io rfl)) (nH rfl (EX.m "NoHouse" (by decide)) (EX.xc "NoHouse" (by decide)) (EX.kp "NoHouse" (by decide)) (gk mM io rfl)) (nH rfl (EX.m "NoRoad" (by decide)) (EX.xc "NoRoad" (by decide)) (EX.kp "NoRoad" (by decide)) (gk mM io rfl)) (nH rfl (EX.m "Ring" (by decide)) (EX.xc "Ring" (by decide)) (EX.kp "Ring" (by decide)) (gk mM io rfl)) (nC (nH rfl (EX.m "NoHold" (by decide)) (EX.xc "NoHold" (by decide)) (EX.kp "NoHold" (by decide)) (gk mM io rfl)) (nH rfl (EX.m "NoLetter" (by decide)) (EX.xc "NoLetter" (by decide)) (EX.kp "NoLetter" (by decide)) (gk mM io rfl)) (nH rfl (EX.m "NoStep" (by decide)) (EX.xc "NoStep" (by decide)) (EX.kp "NoStep" (by decide)) (gk mM io rfl)) (nH rfl (EX.m "NoText" (by decide)) (EX.xc "NoText" (by decide)) (EX.kp "NoText" (by decide)) (gk mM io rfl)) io rfl rfl rfl rfl) rfl rfl rfl rfl))))
  (mf (mB (i:=2) nk (mw (ow (en 2) (mw (mJ (gk (nH rfl (EX.m "NoRow" (by decide)) (EX.xc "NoRow" (by decide)) (EX.kp "NoRow" (by decide)) (gk mM io rfl)) (gk (yy LG.L LG.G LG.b hr (EX.m "NoLog" (by decide)) (en 1)) io rfl) rfl))))))
  (mf (mB (i:=3) nk (mw (mJ (ad_k (by kernel_rfl)))))
  (mf (mI (TW.td (uW (oq hr (mw (o8 (N':=["one", "-pot", "-number", "-some", "-names"]) (m:=1) (CompScope.of (by kernel_rfl)) rfl (nj (en 2)) (λ_ _ _ _=>(gd_n (i:=0) (m:=1) nk)) (λ_ _ _ _=>vo) (λ_ _ _ _=>(mC cj.G (hr.mono (by decide)) rfl cj.m cj.p cj.b (gk (en 0) io rfl))))) (en 3)) (sW (oz (pQ (BZ rfl rfl cX (gk (mw (o8 (N':=["one", "-pot", "-number", "-some", "-names"]) (m:=1) (CompScope.of (by kernel_rfl)) rfl (nj (en 2)) (λ_ _ _ _=>(gd_n (i:=0) (m:=1) nk)) (λ_ _ _ _=>vo) (λ_ _ _ _=>(mW EX.tab rfl ah rfl (EX.m "RoofError" (by decide)) (en 0))))) io rfl)))))))
  (mh (md (mF pz))) mO)
  (mh (md (mF (yj hr (wW EX.tab LG.L (mE (en 2) (pq l9))) (en 1)))))))))))
theorem x0:FnScope ["way", "web", "one", "other", "house"] ["way", "web", "one", "other"] (defScope rD):=⟨rfl,rfl,rfl,by decide +kernel,rfl,by decide +kernel,by decide +kernel⟩
theorem BU {f:Addr}{fd:FuncData} (F:Fun K "_law_web_due" "_law_web_due" rD f fd) {i4' hV'} (fq:zK P w K mg base i4' hV') (cY:mg "int"=none):FnOk P w K mg base CX0 3 f fd ["way", "web", "one", "other"] (spD K pX) :=
 mH (k:=2) (N:=["way", "web", "one", "other", "house"]) F x0 rF (λam A outer s H E B hr=>mD
  (mf (nc never rfl (nj (sx (mw (mJ (gk (en 2) (gk (en 3) io rfl) rfl))) v8 (pN (mK l9 (A5 rfl cY (gk (xw (en 0) l9) io rfl)))))) (gd_n (i:=4) (m:=100) nk)
  (mh (mI (oz (qX l9 (en 4) (mE (en 1) l9)))
  (mh (md (mF mM))) mO)))
  (mh (md (mF (sy (TW.td (w8 (ny hr (en 0) l9) (Bc (rP hr (en 3) (mw (mY fq.G (hr.mono (by decide)) rfl fq.m fq.p fq.b (gk (en 1) (gk (en 2) io rfl) rfl))))))) mM mM))))))
theorem At:FnScope ["script", "pot", "turn", "web", "far", "houses", "one", "other", "way"] ["script"] (defScope rq):=⟨rfl,rfl,rfl,by decide +kernel,rfl,by decide +kernel,by decide +kernel⟩
theorem zL {f:Addr}{fd:FuncData} (F:Fun K "law" "law" rq f fd) {j8' i5'} (ft:zB P w K mg base j8' i5') {dY' dU'} (fu:yH P w K mg base dY' dU') {j9' i6'} (fv:BF P w K mg base j9' i6') {be' a6'} (aG:pZ P w K mg base be' a6') {go' f0'} (fw:AM P w K mg base go' f0') {i7' hW'} (fx:z7 P w K mg base i7' hW') (aD:mg "range"=none) (bj:mg "list"=none):FnOk P w K mg base CX0 28 f fd ["script"] (spD K n9) :=
 mH (k:=27) (N:=["script", "pot", "turn", "web", "far", "houses", "one", "other", "way"]) F At sE (λam A outer s H E B hr=>mD
  (mf (md (nT (i:=1) nk (mY ft.G (hr.mono (by decide)) rfl ft.m ft.p ft.b (gk (en 0) io rfl))))
  (mf (mI (oz (pQ (nn fu.G (hr.mono (by decide)) rfl fu.m fu.p fu.b (pv 1) io)))
  (mh (md (mF pz))) mO)
  (mf (nc never rfl (rS rfl aD (gk l9 io rfl)) (gd_n (i:=2) (m:=100) nk)
  (mf (mB (i:=3) nk (nn fv.G (hr.mono (by decide)) rfl fv.m fv.p fv.b (pv 1) (gk l9 io rfl)))
  (mf (mB (i:=4) nk (nn aG.G (hr.mono (by decide)) rfl aG.m aG.p aG.b (pv 1) (gk (pJ l9 l9) io rfl)))
  (mf (mB (i:=5) nk (mw (ow (mw (zN rfl rfl bj rfl aD (gk (mE (en 3) l9) io rfl))) (mw (mJ (nC (pq l9) (mE (en 3) l9) (mK (mK (mE (en 3) l9) l9) (en 4)) (Ap (pq l9) (en 4)) (gk (pq (mE (en 3) l9)) io rfl) rfl rfl rfl rfl))))))
  (mh (nc never rfl (nj (en 5)) (gd_n (i:=6) (m:=100) nk)
  (mh (nc never rfl (nj (en 5)) (gd_n (i:=7) (m:=100) nk)
  (mh (nc never rfl (rS rfl aD (gk l9 io rfl)) (gd_n (i:=8) (m:=100) nk)
  (mh (mI (oq hr (mC fx.G (hr.mono (by decide)) rfl fx.m fx.p fx.b (nC (en 8) (en 3) (en 6) (en 7) io rfl rfl rfl rfl)) (mC fw.G (hr.mono (by decide)) rfl fw.m fw.p fw.b (nC (en 8) (en 3) (en 6) (en 7) io rfl rfl rfl rfl)))
  (mh (md (mF pz))) mO))))))))))))
  (mh (md (mF pz)))))))
end
structure Dn (K:PySem.W.Frag) (mg:Str->Option Value) (x:Str) (st:Stmt) (f:Addr) (fd:FuncData):Prop where
 F:Fun K x x st f fd
 m:mg x=some (.ref f)
 a:PySem.W.nsIn K mainGlobals x=some (some (.ref f))
theorem dn {K:PySem.W.Frag}{h:Heap}{mg:Str->Option Value}{x:Str}{st:Stmt}{f:Addr}{od an:Option Addr}{sl:Array (Option Value)}{oc kV dc pm cd ct:Value} (X:K.In h) (G:h.Ns mainGlobals mg) (a:PySem.W.nsIn K mainGlobals x=some (some (.ref f))) (l:K.lookup f=some ⟨oc,od,.func (fnOf x x (defArgs st) (defBody st) (defScope st) .none kV dc pm an cd ct),sl⟩) (c:codeIn K cd x=true) (k:PySem.W.keepIn K (.ref f)=true):Dn K mg x st f (fnOf x x (defArgs st) (defBody st) (defScope st) .none kV dc pm an cd ct):=⟨ur l c k,PySem.W.mg_of X G a,a⟩
section
variable {P:Program}{w:World}{K:PySem.W.Frag}{mg:Str->Option Value}{base:Heap}{x:Str}{st:Stmt}{f:Addr}{fd:FuncData}{k:Nat}{g:List R->Option (R×List R)}
theorem lenOf1 {α:Type}{us:List α} (h:us.length=1):∃ a,us=[a]:=by
 obtain ⟨a,us,rfl⟩:=List.exists_cons_of_length_eq_add_one h
 exact ⟨a,by rw [List.length_eq_zero_iff.mp (Nat.succ.inj h)]⟩
theorem lenOf2 {α:Type}{us:List α} (h:us.length=2):∃ a b,us=[a,b]:=by
 obtain ⟨a,us,rfl⟩:=List.exists_cons_of_length_eq_add_one h
 obtain ⟨b,rfl⟩:=lenOf1 (Nat.succ.inj h)
 exact ⟨a,b,rfl⟩
theorem lenOf3 {α:Type}{us:List α} (h:us.length=3):∃ a b c,us=[a,b,c]:=by
 obtain ⟨a,us,rfl⟩:=List.exists_cons_of_length_eq_add_one h
 obtain ⟨b,c,rfl⟩:=lenOf2 (Nat.succ.inj h)
 exact ⟨a,b,c,rfl⟩
theorem lenOf4 {α:Type}{us:List α} (h:us.length=4):∃ a b c d,us=[a,b,c,d]:=by
 obtain ⟨a,us,rfl⟩:=List.exists_cons_of_length_eq_add_one h
 obtain ⟨b,c,d,rfl⟩:=lenOf3 (Nat.succ.inj h)
 exact ⟨a,b,c,d,rfl⟩
theorem Dn.b1 {p:Str} (D:Dn K mg x st f fd) (h:∀ (kV dc pm:Value) (an:Option Addr) (cd ct a:Value),bindArgs (fnOf x x (defArgs st) (defBody st) (defScope st) .none kV dc pm an cd ct) ⟨[a],[]⟩=pure [(p,a)]:=by intros;rfl):Binds K fd [p] []:=D.F.binds λ_ _ _ _ _ _ us hl=>by obtain ⟨a,rfl⟩:=lenOf1 hl;exact h _ _ _ _ _ _ a
theorem Dn.c1 {p:Str} (D:Dn K mg x st f fd) (G:FnOk P w K mg base CX0 k f fd [p] (spD K g)) (h:∀ (kV dc pm:Value) (an:Option Addr) (cd ct a:Value),bindArgs (fnOf x x (defArgs st) (defBody st) (defScope st) .none kV dc pm an cd ct) ⟨[a],[]⟩=pure [(p,a)]:=by intros;rfl):Cd P w K mg base k f fd [p] g x:=⟨G,D.b1 h,D.F.kp,D.m⟩
theorem Dn.b2 {p q:Str} (D:Dn K mg x st f fd) (h:∀ (kV dc pm:Value) (an:Option Addr) (cd ct a b:Value),bindArgs (fnOf x x (defArgs st) (defBody st) (defScope st) .none kV dc pm an cd ct) ⟨[a,b],[]⟩=pure [(p,a),(q,b)]:=by intros;rfl):Binds K fd [p,q] []:=D.F.binds λ_ _ _ _ _ _ us hl=>by obtain ⟨a,b,rfl⟩:=lenOf2 hl;exact h _ _ _ _ _ _ a b
theorem Dn.x2 {cl:Nat->Addr}{gx:List D->Option Nat}{p q:Str} (D:Dn K mg x st f fd) (G:FnOk P w K mg base (CXX P w) k f fd [p,q] (spE K cl gx)) (h:∀ (kV dc pm:Value) (an:Option Addr) (cd ct a b:Value),bindArgs (fnOf x x (defArgs st) (defBody st) (defScope st) .none kV dc pm an cd ct) ⟨[a,b],[]⟩=pure [(p,a),(q,b)]:=by intros;rfl):CdX P w K mg base cl k f fd [p,q] gx x:=⟨G,D.b2 h,D.F.kp,D.m⟩
theorem Dn.c2 {p q:Str} (D:Dn K mg x st f fd) (G:FnOk P w K mg base CX0 k f fd [p,q] (spD K g)) (h:∀ (kV dc pm:Value) (an:Option Addr) (cd ct a b:Value),bindArgs (fnOf x x (defArgs st) (defBody st) (defScope st) .none kV dc pm an cd ct) ⟨[a,b],[]⟩=pure [(p,a),(q,b)]:=by intros;rfl):Cd P w K mg base k f fd [p,q] g x:=⟨G,D.b2 h,D.F.kp,D.m⟩
theorem Dn.b3 {p q r:Str} (D:Dn K mg x st f fd) (h:∀ (kV dc pm:Value) (an:Option Addr) (cd ct a b c:Value),bindArgs (fnOf x x (defArgs st) (defBody st) (defScope st) .none kV dc pm an cd ct) ⟨[a,b,c],[]⟩=pure [(p,a),(q,b),(r,c)]:=by intros;rfl):Binds K fd [p,q,r] []:=D.F.binds λ_ _ _ _ _ _ us hl=>by obtain ⟨a,b,c,rfl⟩:=lenOf3 hl;exact h _ _ _ _ _ _ a b c
theorem Dn.x3 {cl:Nat->Addr}{gx:List D->Option Nat}{p q r:Str} (D:Dn K mg x st f fd) (G:FnOk P w K mg base (CXX P w) k f fd [p,q,r] (spE K cl gx)) (h:∀ (kV dc pm:Value) (an:Option Addr) (cd ct a b c:Value),bindArgs (fnOf x x (defArgs st) (defBody st) (defScope st) .none kV dc pm an cd ct) ⟨[a,b,c],[]⟩=pure [(p,a),(q,b),(r,c)]:=by intros;rfl):CdX P w K mg base cl k f fd [p,q,r] gx x:=⟨G,D.b3 h,D.F.kp,D.m⟩
theorem Dn.c3 {p q r:Str} (D:Dn K mg x st f fd) (G:FnOk P w K mg base CX0 k f fd [p,q,r] (spD K g)) (h:∀ (kV dc pm:Value) (an:Option Addr) (cd ct a b c:Value),bindArgs (fnOf x x (defArgs st) (defBody st) (defScope st) .none kV dc pm an cd ct) ⟨[a,b,c],[]⟩=pure [(p,a),(q,b),(r,c)]:=by intros;rfl):Cd P w K mg base k f fd [p,q,r] g x:=⟨G,D.b3 h,D.F.kp,D.m⟩
theorem Dn.b4 {p q r s:Str} (D:Dn K mg x st f fd) (h:∀ (kV dc pm:Value) (an:Option Addr) (cd ct a b c d:Value),bindArgs (fnOf x x (defArgs st) (defBody st) (defScope st) .none kV dc pm an cd ct) ⟨[a,b,c,d],[]⟩=pure [(p,a),(q,b),(r,c),(s,d)]:=by intros;rfl):Binds K fd [p,q,r,s] []:=D.F.binds λ_ _ _ _ _ _ us hl=>by obtain ⟨a,b,c,d,rfl⟩:=lenOf4 hl;exact h _ _ _ _ _ _ a b c d
theorem Dn.x4 {cl:Nat->Addr}{gx:List D->Option Nat}{p q r s:Str} (D:Dn K mg x st f fd) (G:FnOk P w K mg base (CXX P w) k f fd [p,q,r,s] (spE K cl gx)) (h:∀ (kV dc pm:Value) (an:Option Addr) (cd ct a b c d:Value),bindArgs (fnOf x x (defArgs st) (defBody st) (defScope st) .none kV dc pm an cd ct) ⟨[a,b,c,d],[]⟩=pure [(p,a),(q,b),(r,c),(s,d)]:=by intros;rfl):CdX P w K mg base cl k f fd [p,q,r,s] gx x:=⟨G,D.b4 h,D.F.kp,D.m⟩
theorem Dn.c4 {p q r s:Str} (D:Dn K mg x st f fd) (G:FnOk P w K mg base CX0 k f fd [p,q,r,s] (spD K g)) (h:∀ (kV dc pm:Value) (an:Option Addr) (cd ct a b c d:Value),bindArgs (fnOf x x (defArgs st) (defBody st) (defScope st) .none kV dc pm an cd ct) ⟨[a,b,c,d],[]⟩=pure [(p,a),(q,b),(r,c),(s,d)]:=by intros;rfl):Cd P w K mg base k f fd [p,q,r,s] g x:=⟨G,D.b4 h,D.F.kp,D.m⟩
end
theorem all_mk {P:Program}{w:World}{K:PySem.W.Frag}{mg:Str->Option Value}{fa:Addr} (kX:mg "law"=some (.ref fa))
  {f0 d0} (D0:Dn K mg "must_be_house" qz f0 d0)
  {f1 d1} (D1:Dn K mg "must_be_road" pO f1 d1)
  {f2 d2} (D2:Dn K mg "neighbours_of" qt f2 d2)
  {f3 d3} (D3:Dn K mg "way_between" qe f3 d3)
  {f4 d4} (D4:Dn K mg "way_on" pW f4 d4)
  {f5 d5} (D5:Dn K mg "houses_behind" qp f5 d5)
  {f6 d6} (D6:Dn K mg "houses_from" pP f6 d6)
  {f7 d7} (D7:Dn K mg "_law_blend" qM f7 d7)
  {f8 d8} (D8:Dn K mg "_law_pot" rG f8 d8)
  {f9 d9} (D9:Dn K mg "_law_pick" sh f9 d9)
  {f10 d10} (ji:Dn K mg "_law_kind" si f10 d10)
  {f11 d11} (jj:Dn K mg "_law_order" rl f11 d11)
  {f12 d12} (jk:Dn K mg "_law_web" sk f12 d12)
  {f13 d13} (jl:Dn K mg "_law_near" qO f13 d13)
  {f14 d14} (jm:Dn K mg "_law_named" rm f14 d14)
  {f15 d15} (jn:Dn K mg "_law_told" sg f15 d15)
  {f16 d16} (jo:Dn K mg "_law_classes_right" rc f16 d16)
  {f17 d17} (jp:Dn K mg "_law_web_due" rD f17 d17)
  {f18 d18} (hJ:Dn K mg "law" rq f18 d18)
  (aU:mg "ValueError"=none)
  (cX:mg "all"=none)
  (bf:mg "enumerate"=none)
  (cY:mg "int"=none)
  (ah:mg "isinstance"=none)
  (bt:mg "len"=none)
  (bj:mg "list"=none)
  (cW:mg "max"=none)
  (cV:mg "min"=none)
  (aD:mg "range"=none)
  (aq:mg "sorted"=none)
  (bU:mg "tuple"=none)
  (cU:mg "zip"=none)
  (EX:Exs K mg)
  {fI dI} (DI:Fun K "__init__" "NoLog.__init__" nA fI dI) (LI:XLog K fI) :
  ∃ fd:FuncData,(∀ (s:Shared) (v:Value),BindsTo s fd ⟨[v],[]⟩ [("script", v)])/\∀ base:Heap,K.In base->base.Ns mainGlobals mg->FnOk P w K mg base CX0 28 fa fd ["script"] (spD K n9):=by
 cases kX.symm.trans hJ.m
 refine ⟨d18,λs v=>?_,λbase _ _=>?_⟩
 ·obtain ⟨_,_,_,_,_,_,_,_,_,rfl,_,_⟩:=hJ.F.ex
  exact .of_eq rfl
 have C8:=D8.c1 (yD (P:=P) (w:=w) (base:=base) D8.F bj bf)
 have C7:=D7.c2 (zU (P:=P) (w:=w) (base:=base) D7.F )
 have C9:=D9.c2 (BJ D9.F C7 bt)
 have kY:=ji.c3 (zX (P:=P) (w:=w) (base:=base) ji.F EX cU ah aU bt)
 have jq:=jm.c1 (AZ jm.F kY EX ah)
 have kZ:=jo.c1 (Bf jo.F C9 jq EX (zE DI LI EX) ah cX)
 have k6:=jj.c2 (xt jj.F C9 aD)
 have k7:=jk.c2 (yE jk.F C9 k6 aD cV cW aq bU)
 have k8:=jl.c2 (wA (P:=P) (w:=w) (base:=base) jl.F aq)
 have k9:=jp.c4 (BU jp.F k8 cY)
 have C0:=D0.c2 (y6 (P:=P) (w:=w) (base:=base) D0.F EX)
 have X0:=D0.x2 (Cf (P:=P) (w:=w) (base:=base) D0.F EX)
 have C2:=D2.c2 (Ar D2.F C0 X0 aq)
 have X2:=D2.x2 (B8 D2.F C0 X0 aq)
 have C4:=D4.c4 (sU D4.F C2 D4.b4 D4.F.kp D4.m 20)
 have C3:=D3.c3 (zD D3.F C0 C4 X0)
 have X3:=D3.x3 (Bn D3.F C0 C4 X0)
 have C1:=D1.c3 (wB D1.F C0 C2 X0 EX)
 have X1:=D1.x3 (A0 D1.F C0 C2 X0 EX)
 have C6:=D6.c3 (t5 D6.F C2 D6.b3 D6.F.kp D6.m 20)
 have C5:=D5.c3 (z8 D5.F C1 C6 X1 aq)
 have X5:=D5.x3 (Am D5.F C1 C6 X1 aq)
 have lc:=jn.c4 (xD jn.F C2 C3 C5 jq X2 X3 X5 EX)
 exact zL hJ.F C8 kZ k7 C9 k9 lc aD bj
theorem walk {l:PySem.W.OpenLaw}{q:Program}{bz:List Str}{XP:(Str->Option Value)->Heap->Prop}{YP:World->Heap->Prop}{d:DefRec}{K:Params->PySem.W.Frag} (jr:∀ ns:List Int,ns.length<=63->∃ rs,n9 [.val (.lst (ns.map D.int))]=some (.val (.bl true),rs)) (hn:l.most=some 63) (dO:d.params.defaults=[])
  (hY:∀ (w:World) (h:Heap),YP w h->(K w.params).In h)
  (F:∀ (w:World) (mg:Str->Option Value) (fa:Addr) (h:Heap),(K w.params).In h->h.Ns mainGlobals mg->mg d.name=some (.ref fa) →
   ∃ fd:FuncData,(∀ (s:Shared) (u:Value),BindsTo s fd ⟨[u],[]⟩ [("script", u)])/\∀ base:Heap,(K w.params).In base->base.Ns mainGlobals mg->FnOk l.prog w (K w.params) mg base CX0 28 fa fd ["script"] (spD (K w.params) n9)) :
  PySem.W.WalkO q bz XP YP l.row.toRowW d [] (λf vs=>PySem.call f vs) :=
 yJ (n:=63) (k:=28) (x := "script") (CX:=λ_=>CX0) (sp:=λw=>spD (K w.params) n9) hn (by decide) dO ⟨rfl,by decide,by decide,rfl⟩ hY F (λ_ H a ns hl _ hS=>A4 hS (jr ns hl)) λ_ _ _ _ _ z=>z
end Own
namespace Own
open DL L2
@[simp] theorem sd:∀ xs:List Int,depA (xs.map D.int)=0
 | []=>rfl
 | x::xs=>by rw [map_cons,depA,sd xs];rfl
@[simp] theorem CL (xs:List Int):dep (.lst (xs.map D.int))=1:=by rw [dep,sd]
def Adj (rs:List (Int×Int)) (a b:Int):Prop:=(a,b)∈rs\/(b,a)∈rs
theorem Adj.symm {rs:List (Int×Int)}{a b:Int} (h:Adj rs a b):Adj rs b a:=h.elim .inr .inl
structure Web (n:Nat) (rs:List (Int×Int)) (rk:Int->Nat):Prop where
 n1:1<=n
 n8:n<=8
 lt:∀ r∈rs,0<=r.1/\r.1 < r.2/\r.2 < n
 nd:rs.Nodup
 ne:∀ a b,Adj rs a b->rk a≠rk b
 rk8:∀ a b,Adj rs a b->rk a < 8
 one:∀ v a b,Adj rs v a->Adj rs v b->rk a < rk v->rk b < rk v->a=b
def Par (rs:List (Int×Int)) (rk:Int->Nat) (v p:Int):Prop:=Adj rs v p/\rk p < rk v
inductive Desc (rs:List (Int×Int)) (rk:Int->Nat) (x:Int):Int->Prop where
 | refl:Desc rs rk x x
 | up {v p:Int} (a:Par rs rk v p) (d:Desc rs rk x p):Desc rs rk x v
noncomputable def Wl (N:Int->List Int):Nat->Option Int->Int->List Int
 | 0,_,h=>[h]
 | k+1,c,h=>h::((N h).filter λu=>decide (some u≠c)).flatMap (Wl N k (some h))
theorem sL {N:Int->List Int}{k:Nat}{c:Option Int}{h:Int}:h∈Wl N k c h:=by
 cases k<;>exact mem_cons_self
theorem o9 {N:Int->List Int}{k:Nat}{c:Option Int}{h v:Int}:v∈Wl N (k+1) c h↔v=h\/∃ u,u∈N h/\some u≠c/\v∈Wl N k (some h) u:=by
 rw [Wl,mem_cons,List.mem_flatMap]
 simp only [mem_filter,decide_eq_true_eq,and_assoc]
section
variable {n:Nat}{rs:List (Int×Int)}{rk:Int->Nat}{N:Int->List Int}
theorem Desc.rk_le {x v:Int} (h:Desc rs rk x v):rk x<=rk v:=by
 induction h with
 | refl=>exact le_refl _
 | up a _ ih=>exact le_trans ih (le_of_lt a.2)
theorem Desc.trans {x y v:Int} (h1:Desc rs rk x y) (h2:Desc rs rk y v):Desc rs rk x v:=by
 induction h2 with
 | refl=>exact h1
 | up a _ ih=>exact .up a ih
theorem Web.chain (W:Web n rs rk){a b v:Int} (h1:Desc rs rk a v) (h2:Desc rs rk b v):Desc rs rk a b\/Desc rs rk b a:=by
 induction h1 with
 | refl=>exact .inr h2
 | @up v p q d ih =>
  cases h2 with
  | refl=>exact .inl (.up q d)
  | @up _ p' q' d' =>
   have:=W.one v p p' q.1 q'.1 q.2 q'.2
   subst this
   exact ih d'
theorem Web.sib0 (W:Web n rs rk){a b h:Int} (pa:Par rs rk a h) (pb:Par rs rk b h) (d:Desc rs rk a b):a=b:=by
 cases d with
 | refl=>rfl
 | @up _ p q d' =>
  have:=W.one b p h q.1 pb.1 q.2 pb.2
  subst this
  have:=d'.rk_le
  have:=pa.2
  omega
theorem Web.sib (W:Web n rs rk){a b h v:Int} (pa:Par rs rk a h) (pb:Par rs rk b h) (h1:Desc rs rk a v) (h2:Desc rs rk b v):a=b:=by
 rcases W.chain h1 h2 with d | d
 ·exact W.sib0 pa pb d
 ·exact (W.sib0 pb pa d).symm
def Side (rs:List (Int×Int)) (rk:Int->Nat) (c h v:Int):Prop:=(rk c < rk h/\Desc rs rk h v)\/(rk h < rk c/\¬ Desc rs rk c v)
theorem Web.side (W:Web n rs rk) (hN:∀ v u,u∈N v↔Adj rs v u):∀ (k:Nat) (c h:Int),Adj rs c h->∀ v∈Wl N k (some c) h,Side rs rk c h v:=by
 have base:∀ c h,Adj rs c h->Side rs rk c h h:=λc h a=>by
  have:=W.ne c h a
  by_cases l:rk c < rk h
  ·exact .inl ⟨l,.refl⟩
  ·exact .inr ⟨by omega,λd=>by have:=d.rk_le;omega⟩
 intro k
 induction k with
 | zero=>intro c h a v hv;rw [Wl,mem_singleton] at hv;subst hv;exact base c v a
 | succ k ih =>
  intro c h a v hv
  rcases o9.mp hv with rfl | ⟨u,hu,hc,hv⟩
  ·exact base c v a
  ·have au:=(hN h u).mp hu
   have hc:u≠c:=λz=>hc (by rw [z])
   have s:=ih h u au v hv
   have n1:=W.ne c h a
   have n2:=W.ne h u au
   by_cases l:rk c < rk h
   ·rcases s with ⟨s1,s2⟩ | ⟨s1,_⟩
    ·exact .inl ⟨l,.trans (.up ⟨au.symm,s1⟩ .refl) s2⟩
    ·exact absurd (W.one h u c au a.symm s1 l) hc
   ·have l:rk h < rk c:=by omega
    have pc:Par rs rk c h:=⟨a,l⟩
    refine .inr ⟨l,λd=>?_⟩
    rcases s with ⟨s1,s2⟩ | ⟨s1,s2⟩
    ·exact hc (W.sib (h:=h) ⟨au.symm,s1⟩ pc s2 d)
    ·exact s2 (.trans (.up pc .refl) d)
theorem Web.back (W:Web n rs rk) (hN:∀ v u,u∈N v↔Adj rs v u){k:Nat}{c h:Int} (a:Adj rs c h):c∉Wl N k (some c) h:=λm=>by
 rcases W.side hN k c h a c m with ⟨s1,s2⟩ | ⟨_,s2⟩
 ·have:=s2.rk_le;omega
 ·exact s2 .refl
theorem Web.apart (W:Web n rs rk) (hN:∀ v u,u∈N v↔Adj rs v u){k:Nat}{h a b v:Int} (ha:Adj rs h a) (hb:Adj rs h b) (h1:v∈Wl N k (some h) a) (h2:v∈Wl N k (some h) b):a=b:=by
 rcases W.side hN k h a ha v h1 with ⟨s1,s2⟩ | ⟨s1,s2⟩<;>rcases W.side hN k h b hb v h2 with ⟨t1,t2⟩ | ⟨t1,t2⟩
 ·exact W.sib (h:=h) ⟨ha.symm,s1⟩ ⟨hb.symm,t1⟩ s2 t2
 ·exact absurd (.trans (.up ⟨ha.symm,s1⟩ .refl) s2) t2
 ·exact absurd (.trans (.up ⟨hb.symm,t1⟩ .refl) t2) s2
 ·exact W.one h a b ha hb s1 t1
theorem uy {α Y:Type}{f:α->List Y}:∀ {l:List α},l.Nodup->(∀ x∈l,(f x).Nodup)->(∀ x∈l,∀ y∈l,∀ v,v∈f x->v∈f y->x=y)->(l.flatMap f).Nodup
 | [],_,_,_=>nodup_nil
 | x::l,hn,h1,h2=>by
  rw [List.flatMap_cons,List.nodup_append]
  rw [nodup_cons] at hn
  refine ⟨h1 x mem_cons_self,uy hn.2 (λy hy=>h1 y (mem_cons_of_mem _ hy)) (λy hy z hz=>h2 y (mem_cons_of_mem _ hy) z (mem_cons_of_mem _ hz)),λv hv u hu e=>?_⟩
  subst e
  obtain ⟨y,hy,gL⟩:=List.mem_flatMap.mp hu
  have:=h2 x mem_cons_self y (mem_cons_of_mem _ hy) v hv gL
  subst this
  exact hn.1 hy
theorem Web.nodup (W:Web n rs rk) (hN:∀ v u,u∈N v↔Adj rs v u) (hn:∀ v,(N v).Nodup):∀ (k:Nat) (c:Option Int) (h:Int),(Wl N k c h).Nodup:=by
 intro k
 induction k with
 | zero=>intro c h;rw [Wl];exact nodup_cons.mpr ⟨by simp,nodup_nil⟩
 | succ k ih =>
  intro c h
  rw [Wl,nodup_cons]
  refine ⟨λm=>?_,uy ((hn h).filter _) (λu hu=>ih _ _) λu hu v hv x h1 h2=>?_⟩
  ·obtain ⟨u,hu,m⟩:=List.mem_flatMap.mp m
   exact W.back hN ((hN h u).mp (mem_filter.mp hu).1) m
  ·exact W.apart hN ((hN h u).mp (mem_filter.mp hu).1) ((hN h v).mp (mem_filter.mp hv).1) h1 h2
noncomputable def mu (rk:Int->Nat):Option Int->Int->Nat
 | none,_=>18
 | some c,h=>if rk c < rk h then 8 - rk h else 9+rk h
theorem Web.mu_lt (W:Web n rs rk){c:Option Int}{h u:Int} (hc:∀ x,c=some x->Adj rs x h) (hu:Adj rs h u) (ne:some u≠c):mu rk (some h) u < mu rk c h:=by
 have n2:=W.ne h u hu
 have r1:=W.rk8 h u hu
 have r2:=W.rk8 u h hu.symm
 cases c with
 | none=>simp only [mu];split<;>omega
 | some c =>
  have a:=hc c rfl
  have n1:=W.ne c h a
  simp only [mu]
  by_cases l:rk c < rk h
  ·rw [if_pos l]
   by_cases m:rk h < rk u
   ·rw [if_pos m];omega
   ·exact absurd (W.one h u c hu a.symm (by omega) l) (λz=>ne (by rw [z]))
  ·rw [if_neg l]
   split<;>omega
theorem tW (S:Int->Prop) (c:Option Int) (hS:∀ v u,S v->u∈N v->some u≠c->S u):∀ (k:Nat) (c':Option Int) (h:Int),S h->(∀ v∈Wl N k c' h,some v≠c)->∀ v∈Wl N k c' h,S v:=by
 intro k
 induction k with
 | zero=>intro c' h hh _ v hv;rw [Wl,mem_singleton] at hv;subst hv;exact hh
 | succ k ih =>
  intro c' h hh hc v hv
  rcases o9.mp hv with rfl | ⟨u,hu,jt,hv⟩
  ·exact hh
  ·refine ih (some h) u (hS h u hh hu (hc u (o9.mpr (.inr ⟨u,hu,jt,sL⟩)))) (λw hw=>hc w (o9.mpr (.inr ⟨u,hu,jt,hw⟩))) v hv
end
def PotOk (c:List D):Prop:=∃ (ns:List Int) (at_ ao:Int),c=[.lst (ns.map .int),.int at_,.int ao]/\0<=at_
theorem zG (a b:Int):∃ z,cvF pt [.int a,.int b]=some (.int z):=by
 have:wpF pt [.val (.int a),.val (.int b)] λr _=>∃ z,r=.val (.int z):=by
  refine nU rfl λKE hE _=>?_
  rw [qL]
  refine ml ?_;rintro K hK hR
  simp
  split
  ·exact hR _ _ (hE _ _ ⟨_,rfl,_,rfl⟩)
  ·refine hK _ ?_
   refine ml ?_;rintro K hK -
   simp
   refine hK _ ?_
   have l1:=emod_nonneg (a % 998244353*40692+b*69621+1009) (show (2147483399:Int)≠0 by decide)
   have u1:=Int.emod_lt_of_pos (a % 998244353*40692+b*69621+1009) (show (0:Int) < 2147483399 by decide)
   generalize (a % 998244353*40692+b*69621+1009) % 2147483399=x at *
   refine ml ?_;rintro K hK -
   simp
   refine ⟨by omega,hK _ ?_⟩
   have l2:=emod_nonneg (x*x+b*48271+a % 131071) (show (2147483647:Int)≠0 by decide)
   have u2:=Int.emod_lt_of_pos (x*x+b*48271+a % 131071) (show (0:Int) < 2147483647 by decide)
   generalize (x*x+b*48271+a % 131071) % 2147483647=y at *
   refine ml ?_;rintro K hK -
   simp
   refine ⟨by omega,hK _ ?_⟩
   generalize (y*y+x*17+3) % 2147483629=z at *
   simp
   exact hE _ _ ⟨_,rfl,_,rfl⟩
 obtain ⟨r,aK,e,z,rfl⟩:=this
 exact ⟨z,by unfold cvF;simp only [map];rw [e]⟩
theorem n5 {c:List D}{u:Int}{Q:R->List D->Prop} (hc:PotOk c) (h1:1<=u) (h2:u < 2 ^ 200) (k:∀ n c',0<=n->n < u->PotOk c'->Q (.val (.int n)) c'):wpB nh c [.int u] Q:=by
 obtain ⟨ns,at_,ao,rfl,h0⟩:=hc
 refine qi rfl λKE hE _=>?_
 rw [qJ]
 refine rp (λΓ1=>∃ hU fL x y z,0<=hU/\Γ1=[some (.bor [.lst (ns.map .int),.int hU,.int fL]),some (.val (.int u)),x,y,z]) (λK hK _=>?_) ?_
 ·simp [isMut,R.mut]
  split
  ·refine ml λK1 ck _=>?_
   simp [isMut,R.mut]
   refine ck _ ?_
   refine ml λK1 ck _=>?_
   simp [isMut,R.mut]
   refine ck _ ?_
   refine rp (λΓ1=>∃ m,Γ1=[some (.bor [.lst (ns.map .int),.int at_,.int ao]),some (.val (.int u)),some (.val (.int at_)),some (.val (.int m)),none]) (λK1 ck _=>?_) ?_
   ·simp [isMut,R.mut]
    split
    ·rename_i h
     obtain ⟨a,e,m⟩:=vn (ds:=ns.map D.int) h0 (by simpa using h)
     obtain ⟨b,_,rfl⟩:=mem_map.mp m
     rw [sv e]
     simp
     exact ck _ ⟨_,rfl⟩
    ·rename_i h
     split
     ·exact ck _ ⟨_,rfl⟩
     ·rename_i h'
      have hl:0 < ns.length:=by cases ns with | nil=>simp at h' | cons=>simp
      refine ⟨by omega,?_⟩
      obtain ⟨a,e,m⟩:=vn (ds:=ns.map D.int) (i:=(at_*7+1) % (ns.length:Int)) (emod_nonneg _ (by omega)) (by simpa using Int.emod_lt_of_pos _ (by omega))
      obtain ⟨b,_,rfl⟩:=mem_map.mp m
      rw [sv e]
      simp
      exact ⟨by omega,ck _ ⟨_,rfl⟩⟩
   ·rintro Γ1 ⟨m,rfl⟩
    refine ml λK1 ck _=>?_
    simp [isMut,R.mut]
    refine ck _ ?_
    obtain ⟨z,e⟩:=zG m at_
    simp [isMut,R.mut,e]
    exact hK _ ⟨_,_,_,_,_,by omega,rfl⟩
  ·exact hK _ ⟨_,_,_,_,_,h0,rfl⟩
 ·rintro Γ1 ⟨hU,fL,x,y,z,h3,rfl⟩
  refine ml ?_;rintro K hK -
  simp [isMut,R.mut]
  refine ⟨by omega,hK _ ?_⟩
  refine ml ?_;rintro K hK -
  simp [isMut,R.mut]
  refine ⟨⟨by omega,by simpa using h2⟩,hK _ ?_⟩
  simp
  exact hE _ _ _ ⟨_,rfl⟩ (k _ _ (emod_nonneg _ (by omega)) (Int.emod_lt_of_pos _ (by omega)) ⟨_,_,_,rfl,h3⟩)
theorem pY {xs:List D}{m i:Nat}{d:D} (h:(numD m xs)[i]?=some d):∃ x,xs[i]?=some x/\d=.tup [.int ((m+i:Nat):Int),x]:=by
 induction xs generalizing m i with
 | nil=>simp [numD] at h
 | cons a xs ih =>
  cases i with
  | zero=>simp [numD] at h;exact ⟨a,rfl,h.symm⟩
  | succ i =>
   simp only [numD,List.getElem?_cons_succ] at h
   obtain ⟨x,e1,e2⟩:=ih h
   exact ⟨x,by simpa using e1,by rw [e2,show m+1+i=m+(i+1) from by omega]⟩
theorem ux {α:Type}{f:α->D}{xs:List α}{lo hi:Option Int}:∃ ys:List α,cutD (xs.map f) lo hi=ys.map f/\(∀ y∈ys,y∈xs)/\ys.length=min (HT.sIx xs.length xs.length hi - HT.sIx xs.length 0 lo) (xs.length - HT.sIx xs.length 0 lo):=by
 refine ⟨(xs.drop (HT.sIx xs.length 0 lo)).take (HT.sIx xs.length xs.length hi - HT.sIx xs.length 0 lo),?_,?_,?_⟩
 ·unfold cutD
  simp [List.map_drop,List.map_take]
 ·intro y h
  exact List.mem_of_mem_drop (List.mem_of_mem_take h)
 ·simp
theorem A1 (ns:List Int):∃ d,coF oY [.lst (ns.map .int)]=some d/\PotOk d:=by
 refine zu ?_
 unfold oY
 refine vD rfl ?_
 rw [rn]
 refine ml λK hK _=>?_
 simp
 refine hK _ ?_
 obtain ⟨cs,e,-,hl⟩:=ux (f:=D.int) (xs:=ns) (lo:=none) (hi:=some 12)
 rw [e]
 have cz:cs.length=min 12 ns.length:=by
  rw [hl];simp [HT.sIx]
 refine rp (λΓ1=>∃ cs,∃ x y z,Γ1=[x,some (.own (map D.int cs)),y,z]) (λK hK _=>?_) ?_
 ·simp
  obtain ⟨ms,e,-,hm⟩:=ux (f:=D.int) (xs:=ns) (lo:=some 12) (hi:=some 63)
  rw [e]
  refine vT (J:=λi Γ=>∃ cs:List Int,∃ y z,cs.length=min 12 ns.length/\Γ=[some (.val (.lst (ns.map .int))),some (.own (cs.map .int)),y,z]) ⟨cs,_,_,cz,rfl⟩ ?_ ?_
  ·rintro i d Γ hd ⟨cs,y,z,hc,rfl⟩
   obtain ⟨x,e1,rfl⟩:=pY hd
   rw [getElem?_map,map_eq_some_iff] at e1
   obtain ⟨n,e1,rfl⟩:=e1
   have hi:i < ms.length:=(List.getElem?_eq_some_iff.mp e1).1
   have lW:12 < ns.length:=by
    simp [HT.sIx] at hm
    omega
   simp [isMut,R.mut]
   have fP:cs.length=12:=by omega
   have lf:((i:Int) % 12)=((i % 12:Nat):Int):=by omega
   rw [lf]
   have br:i % 12 < cs.length:=by omega
   rw [sv (a:=D.int cs[i % 12]) (by rw [oH];simp [br])]
   simp
   refine ⟨(cs.set (i % 12) (cs[i % 12]+n)).map .int,?_,?_⟩
   ·unfold stF L2.ixN
    rw [if_pos (by omega),if_pos (by simp;omega),show ((i:Int) % 12).toNat=i % 12 from by omega]
    simp
   ·exact ⟨cs.set (i % 12) (cs[i % 12]+n),by simpa using hc,by simp⟩
  ·rintro Γ ⟨cs,y,z,hc,rfl⟩
   exact hK _ ⟨cs,_,_,_,rfl⟩
 ·rintro Γ1 ⟨cs,x,y,z,rfl⟩
  simp [flR,fin]
  exact ⟨cs,0,0,rfl,by omega⟩
noncomputable def pairD (p:Int×Int):D:=.tup [.int p.1,.int p.2]
@[simp] theorem Db {p:Int×Int}:ixF (pairD p) (.int 0)=some (.int p.1):=rfl
@[simp] theorem CJ {p:Int×Int}:ixF (pairD p) (.int 1)=some (.int p.2):=rfl
theorem qZ {lo:Int}{n i:Nat}{d:D} (h:(rngD lo n)[i]?=some d):d=.int (lo+i)/\i < n:=by
 unfold rngD at h
 rw [getElem?_map,map_eq_some_iff] at h
 obtain ⟨k,h1,rfl⟩:=h
 obtain ⟨h2,h3⟩:=List.getElem?_eq_some_iff.mp h1
 rw [getElem_range] at h3
 subst h3
 exact ⟨rfl,by simpa using h2⟩
@[simp] theorem vm {lo:Int}{n:Nat}:(rngD lo n).length=n:=by simp [rngD]
theorem uC {ds:List D}{n:Nat} (h:∀ d∈ds,dep d<=n):depA ds<=n:=by
 induction ds with
 | nil=>simp [depA]
 | cons d ds ih =>
  rw [depA]
  have h1:=h d mem_cons_self
  have h2:=ih λd hd=>h d (mem_cons_of_mem _ hd)
  omega
noncomputable def webD (n:Nat) (rs:List (Int×Int)):D:=.tup [.int n,.tup (rs.map pairD)]
@[simp] theorem CS {n:Nat}{rs:List (Int×Int)}:ixF (webD n rs) (.int 0)=some (.int n):=rfl
@[simp] theorem Cw {n:Nat}{rs:List (Int×Int)}:ixF (webD n rs) (.int 1)=some (.tup (rs.map pairD)):=rfl
noncomputable def sortI (xs:List Int):List Int:=xs.mergeSort λa b=>decide (a<=b)
theorem oO (xs:List Int):(sortI xs).Perm xs:=List.mergeSort_perm _ _
theorem yo {xs ys:List Int} (h:xs.Perm ys):sortI xs=sortI ys:=by
 have tr:∀ a b c:Int,decide (a<=b)=true->decide (b<=c)=true->decide (a<=c)=true:=λa b c h1 h2=>by
  simp only [decide_eq_true_eq] at h1 h2 ⊢
  omega
 have to:∀ a b:Int,(decide (a<=b)||decide (b<=a))=true:=λa b=>by
  simp only [or_eq_true,decide_eq_true_eq]
  omega
 refine List.Perm.eq_of_pairwise (le:=λa b=>decide (a<=b)=true) (λa b _ _ h1 h2=>?_) (List.pairwise_mergeSort tr to _) (List.pairwise_mergeSort tr to _) (((oO xs).trans h).trans (oO ys).symm)
 simp only [decide_eq_true_eq] at h1 h2
 omega
theorem xE (xs:List Int):sortD (xs.map D.int)=(sortI xs).map D.int:=by
 unfold sortD sortI
 refine (List.map_mergeSort λa _ b _=>?_).symm
 unfold leD
 rw [nJ]
 by_cases h:a<=b
 ·rw [decide_eq_true h,decide_eq_false (by omega)];rfl
 ·rw [decide_eq_false h,decide_eq_true (by omega)];rfl
theorem xj {xs:List Int}:depA (xs.map D.int)<=0:=uC λd hd=>by
 obtain ⟨n,_,rfl⟩:=mem_map.mp hd
 simp [dep]
theorem rz {xs:List Int} (h:xs.length < 64):sortF [.lst (xs.map D.int)]=some ((sortI xs).map D.int):=by
 rw [sQ,xE]
 refine ⟨by simpa using h,?_,by have:=xj (xs:=xs);omega,.inl ?_⟩
 ·unfold cmAll
  rw [all_eq_true]
  intro a ha
  rw [all_eq_true]
  intro b hb
  obtain ⟨i,_,rfl⟩:=mem_map.mp ha
  obtain ⟨j,_,rfl⟩:=mem_map.mp hb
  rfl
 ·rw [all_eq_true]
  intro a ha
  obtain ⟨i,_,rfl⟩:=mem_map.mp ha
  rfl
theorem pp {α Y:Type}{f:α->Y}:∀ {l:List α},l.Nodup->(∀ x∈l,∀ y∈l,f x=f y->x=y)->(l.map f).Nodup
 | [],_,_=>nodup_nil
 | x::l,hn,h=>by
  rw [nodup_cons] at hn
  rw [map_cons,nodup_cons]
  refine ⟨λm=>?_,pp hn.2 λy hy z hz=>h y (mem_cons_of_mem _ hy) z (mem_cons_of_mem _ hz)⟩
  obtain ⟨y,hy,e⟩:=mem_map.mp m
  have:=h y (mem_cons_of_mem _ hy) x mem_cons_self e
  subst this
  exact hn.1 hy
noncomputable def nbL (rs:List (Int×Int)) (h:Int):List Int:=(rs.filter λr=>decide (h=r.1)||decide (h=r.2)).map λr=>if r.1=h then r.2 else r.1
noncomputable def nbs (rs:List (Int×Int)) (h:Int):List Int:=sortI (nbL rs h)
section
variable {n:Nat}{rs:List (Int×Int)}{rk:Int->Nat}
theorem Web.nb0 (W:Web n rs rk) (h u:Int):u∈nbL rs h↔Adj rs h u:=by
 unfold nbL Adj
 rw [mem_map]
 constructor
 ·rintro ⟨⟨a,b⟩,hr,e⟩
  rw [mem_filter] at hr
  obtain ⟨hr,c⟩:=hr
  simp only [or_eq_true,decide_eq_true_eq] at c
  simp only at e
  by_cases q:a=h
  ·rw [if_pos q] at e;subst q;subst e;exact .inl hr
  ·rw [if_neg q] at e;subst e
   rcases c with c | c
   ·exact absurd c.symm q
   ·subst c;exact .inr hr
 ·rintro (m | m)
  ·exact ⟨(h,u),mem_filter.mpr ⟨m,by simp⟩,if_pos rfl⟩
  ·have:=W.lt _ m
   exact ⟨(u,h),mem_filter.mpr ⟨m,by simp⟩,if_neg (show ¬ u=h by have:=this.2.1;simp only at this;omega)⟩
theorem Web.nb0_nodup (W:Web n rs rk) (h:Int):(nbL rs h).Nodup:=by
 unfold nbL
 refine pp (filter _ W.nd) λx hx y hy e=>?_
 obtain ⟨a,b⟩:=x
 obtain ⟨c,d⟩:=y
 rw [mem_filter] at hx hy
 have l1:=W.lt _ hx.1
 have l2:=W.lt _ hy.1
 have h1:=hx.2
 have h2:=hy.2
 simp only [or_eq_true,decide_eq_true_eq] at h1 h2
 simp only at e l1 l2
 rw [Prod.mk.injEq]
 split at e<;>split at e<;>omega
theorem Web.nb (W:Web n rs rk) (h u:Int):u∈nbs rs h↔Adj rs h u:=by
 unfold nbs
 rw [(oO _).mem_iff]
 exact W.nb0 h u
theorem Web.nb_nodup (W:Web n rs rk) (h:Int):(nbs rs h).Nodup:=by
 unfold nbs
 exact (oO _).symm.nodup (W.nb0_nodup h)
theorem Web.in_n (W:Web n rs rk){a b:Int} (h:Adj rs a b):0<=a/\a < n/\0<=b/\b < n:=by
 rcases h with h | h
 ·have:=W.lt _ h;simp only at this;omega
 ·have:=W.lt _ h;simp only at this;omega
theorem qF {m:Nat}{l:List Int} (hn:l.Nodup) (h:∀ x∈l,0<=x/\x < m):l.length<=m:=by
 have:=rf l ((range m).map λk:Nat=>(k:Int)) hn λx hx=>by
  obtain ⟨h1,h2⟩:=h x hx
  exact mem_map.mpr ⟨x.toNat,mem_range.mpr (by omega),by omega⟩
 simpa using this
theorem Web.nb_len (W:Web n rs rk) (h:Int):(nbL rs h).length<=n:=qF (W.nb0_nodup h) λx hx=>by
 have:=W.in_n ((W.nb0 h x).mp hx)
 omega
theorem Web.rs_len (W:Web n rs rk):rs.length<=64:=by
 have:=rf rs ((range 64).map λk:Nat=>(((k / 8:Nat):Int),((k % 8:Nat):Int))) W.nd λr hr=>by
  have:=W.lt r hr
  have:=W.n8
  refine mem_map.mpr ⟨r.1.toNat*8+r.2.toNat,mem_range.mpr (by omega),?_⟩
  obtain ⟨a,b⟩:=r
  simp only at *
  rw [Prod.mk.injEq]
  omega
 simpa using this
end
theorem ox {n:Nat}{rs:List (Int×Int)}{h:Int} (h0:0<=h) (h1:h < n):cvF mQ [webD n rs,.int h]=some .non:=by
 refine nZ rfl λKE _ k2=>?_
 rw [sf]
 simp [h0,h1]
 exact k2 _ rfl ⟨_,rfl⟩
theorem oh {a b:Int}:deq (.int a) (.int b)=decide (a=b):=by
 rw [deq]
 by_cases h:a=b<;>simp [h]
theorem vU {a b:Int}:(a == b)=decide (a=b):=by
 by_cases h:a=b<;>simp [h]
theorem B6 {a b:Int}:(a == b)=decide (b=a):=by
 by_cases h:b=a
 ·simp [h]
 ·have:¬ a=b:=λz=>h z.symm
  simp [h,this]
theorem zY {h:Int}{r:Int×Int}:inF false (.int h) (pairD r)=some (.bl (decide (h=r.1)||decide (h=r.2))):=by
 unfold inF
 simp [pairD,seqI,deq,dep,depA,B6]
theorem o0 {n:Nat}{rs:List (Int×Int)}{rk:Int->Nat} (W:Web n rs rk){h:Int} (h0:0<=h) (h1:h < n):coF nQ [webD n rs,.int h]=some ((nbs rs h).map D.int):=by
 have e1:=ox (rs:=rs) h0 h1
 have l1:=W.rs_len
 have l2:=W.nb_len h
 have l3:=W.n8
 have e2:sortF [.lst ((nbL rs h).map D.int)]=some ((nbs rs h).map D.int):=rz (by omega)
 refine ra rfl λKE k1=>?_
 rw [rO]
 refine ml ?_;rintro K hK -
 simp [e1]
 refine hK _ ?_
 simp
 refine xL rs pairD (λr=>decide (h=r.1)||decide (h=r.2)) (λr=>.int (if r.1=h then r.2 else r.1)) ?_
 simp [zY,dep,oh]
 refine ⟨by omega,λa b _ _=>by split<;>intro z<;>first | exact absurd (by assumption) z | exact absurd z (by assumption),?_⟩
 have e3:map (λr=>D.int (if r.1=h then r.2 else r.1)) (List.filter (λr=>decide (h=r.1)||decide (h=r.2)) rs)=(nbL rs h).map D.int:=by
  unfold nbL
  rw [map_map];rfl
 rw [e3,e2]
 simp
 exact k1 _ ⟨_,rfl⟩
noncomputable def cameD:Option Int->D
 | none=>.non
 | some c=>.int c
@[simp] theorem CH {c:Option Int}:dep (cameD c)=0:=by cases c<;>rfl
theorem qg {u:Int}{c:Option Int}:deq (.int u) (cameD c)=decide (some u=c):=by
 cases c with
 | none=>simp [cameD,deq]
 | some c =>
  simp only [cameD,oh]
  by_cases h:u=c<;>simp [h]
theorem zc {α Y:Type}{f:α->List Y}{m:Nat}{xs:List α} (h:∀ x∈xs,(f x).length<=m):(xs.flatMap f).length<=xs.length*m:=by
 induction xs with
 | nil=>simp
 | cons x xs ih =>
  have h1:=h x mem_cons_self
  have h2:=ih λx hx=>h x (mem_cons_of_mem _ hx)
  rw [List.flatMap_cons,length_append,length_cons,Nat.succ_mul]
  omega
theorem Web.wl_len {n:Nat}{rs:List (Int×Int)}{rk:Int->Nat} (W:Web n rs rk) (k:Nat) (c:Option Int) (h:Int) (h0:0<=h) (h1:h < n):(Wl (nbs rs) k c h).length<=n:=qF (W.nodup W.nb W.nb_nodup k c h) λx hx=>by
 refine tW (N:=nbs rs) (λv=>0<=v/\v < n) none (λv u _ hu _=>?_) k c h ⟨h0,h1⟩ (λv _ z=>by cases z) x hx
 have:=W.in_n ((W.nb v u).mp hu)
 omega
theorem Cg {n:Nat}{rs:List (Int×Int)}{rk:Int->Nat} (W:Web n rs rk){c h:Int} (a:Adj rs c h):mu rk (some c) h < 20:=by
 have:=W.rk8 h c a.symm
 simp only [mu]
 split<;>omega
noncomputable def nearL (rs:List (Int×Int)) (h:Int):List Int:=(rs.filter λr=>decide (r.1=h)).map (·.2)++(rs.filter λr=>decide (r.2=h)).map (·.1)
theorem vY {rs:List (Int×Int)}{h u:Int}:u∈nearL rs h↔Adj rs h u:=by
 unfold nearL Adj
 rw [mem_append,mem_map,mem_map]
 constructor
 ·rintro (⟨⟨a,b⟩,hr,rfl⟩ | ⟨⟨a,b⟩,hr,rfl⟩)
  ·rw [mem_filter,decide_eq_true_eq] at hr
   obtain ⟨hr,rfl⟩:=hr
   exact .inl hr
  ·rw [mem_filter,decide_eq_true_eq] at hr
   obtain ⟨hr,rfl⟩:=hr
   exact .inr hr
 ·rintro (m | m)
  ·exact .inl ⟨_,mem_filter.mpr ⟨m,by simp⟩,rfl⟩
  ·exact .inr ⟨_,mem_filter.mpr ⟨m,by simp⟩,rfl⟩
theorem Web.near_nodup {n:Nat}{rs:List (Int×Int)}{rk:Int->Nat} (W:Web n rs rk) (h:Int):(nearL rs h).Nodup:=by
 unfold nearL
 rw [List.nodup_append]
 refine ⟨pp (filter _ W.nd) λx hx y hy e=>?_,pp (filter _ W.nd) λx hx y hy e=>?_,λv hv u hu e=>?_⟩
 ·rw [mem_filter,decide_eq_true_eq] at hx hy
  exact Prod.ext (hx.2.trans hy.2.symm) e
 ·rw [mem_filter,decide_eq_true_eq] at hx hy
  exact Prod.ext e (hx.2.trans hy.2.symm)
 ·subst e
  obtain ⟨x,hx,rfl⟩:=mem_map.mp hv
  obtain ⟨y,hy,e⟩:=mem_map.mp hu
  rw [mem_filter,decide_eq_true_eq] at hx hy
  have:=W.lt x hx.1
  have:=W.lt y hy.1
  omega
theorem Web.near_eq {n:Nat}{rs:List (Int×Int)}{rk:Int->Nat} (W:Web n rs rk) (h:Int):sortI (nearL rs h)=nbs rs h :=
 yo ((List.perm_ext_iff_of_nodup (W.near_nodup h) (W.nb0_nodup h)).mpr λu=>vY.trans (W.nb0 h u).symm)
theorem y8 {n:Nat}{rs:List (Int×Int)}{rk:Int->Nat} (W:Web n rs rk) (h:Int):coF oW [webD n rs,.int h]=some ((nbs rs h).map D.int):=by
 have l1:=W.rs_len
 have l2:=W.n8
 have l3:(nearL rs h).length<=n:=qF (W.near_nodup h) λx hx=>by
  have:=W.in_n (vY.mp hx)
  omega
 have e1:=rz (xs:=nearL rs h) (by omega)
 rw [W.near_eq] at e1
 refine ra rfl λKE k1=>?_
 rw [rX]
 refine ml ?_;rintro K hK -
 simp
 refine tU rs pairD (λr=>decide (r.1=h)) (λr=>.int r.2) ?_
 simp [pairD,dep,oh]
 refine ⟨by omega,λa b _=>vU,?_⟩
 refine tU rs pairD (λr=>decide (r.2=h)) (λr=>.int r.1) ?_
 simp [pairD,dep,oh]
 have f1:=List.length_filter_le (λr:Int×Int=>decide (r.1=h)) rs
 have f2:=List.length_filter_le (λr:Int×Int=>decide (r.2=h)) rs
 refine ⟨by omega,λa b _=>vU,by omega,hK _ ?_⟩
 have e2:map (λr:Int×Int=>D.int r.2) (List.filter (λr=>decide (r.1=h)) rs)++map (λr=>D.int r.1) (List.filter (λr=>decide (r.2=h)) rs)=(nearL rs h).map D.int:=by
  unfold nearL
  rw [List.map_append,map_map,map_map];rfl
 rw [e2]
 simp [e1]
 exact k1 _ ⟨_,rfl⟩
theorem Aw {n:Nat}{rs:List (Int×Int)}{rk:Int->Nat} (W:Web n rs rk){a b:Int} (h:Adj rs a b):cvF pV [webD n rs,.int a,.int b]=some .non:=by
 obtain ⟨h0,h1,h2,h3⟩:=W.in_n h
 have e1:=ox (rs:=rs) h0 h1
 have e2:=ox (rs:=rs) h2 h3
 have e3:=o0 W h0 h1
 have e4:inF true (.int b) (.lst ((nbs rs a).map D.int))=some (.bl false):=by
  unfold inF
  have:((nbs rs a).map D.int).any (λd=>deq d (.int b))=true:=by
   rw [List.any_eq_true]
   exact ⟨.int b,mem_map.mpr ⟨b,(W.nb a b).mpr h,rfl⟩,by simp [deq]⟩
  simp [seqI,dep]
  simpa using this
 refine nZ rfl λKE _ k2=>?_
 rw [sD]
 refine ml ?_;rintro K hK -
 simp [e1]
 refine hK _ ?_
 refine ml ?_;rintro K hK -
 simp [e2]
 refine hK _ ?_
 simp [e3,e4]
 exact k2 _ rfl ⟨_,rfl⟩
theorem BV {n:Nat}{rs:List (Int×Int)}{rk:Int->Nat} (W:Web n rs rk):∀ (k:Nat) (c:Option Int) (h:Int),0<=h->h < n->(∀ x,c=some x->Adj rs x h)->mu rk c h < k->cvF (nP k) [webD n rs,cameD c,.int h]=some (.lst ((Wl (nbs rs) k c h).map D.int)):=by
 intro k
 induction k with
 | zero=>intro c h _ _ _ hm;omega
 | succ k ih =>
  intro c h h0 h1 hc hm
  have e1:=o0 W h0 h1
  have wl:∀ (k:Nat) (c:Option Int) (h:Int),0<=h->h < n->(Wl (nbs rs) k c h).length<=n:=λk c h h0 h1=>qF (W.nodup W.nb W.nb_nodup k c h) λx hx=>by
   refine tW (N:=nbs rs) (λv=>0<=v/\v < n) none (λv u _ hu _=>?_) k c h ⟨h0,h1⟩ (λv _ z=>by cases z) x hx
   have:=W.in_n ((W.nb v u).mp hu)
   omega
  have l3:=W.n8
  rw [nP]
  refine nZ rfl λKE k1 _=>?_
  rw [p7]
  refine ml ?_;rintro K hK -
  refine ⟨_,_,rfl,hK _ ?_⟩
  show wp _ [some (.val (webD n rs)),some (.val (cameD c)),some (.val (.int h)),some (.own [.int h]),none] _
  refine ml ?_;rintro K hK -
  simp [e1]
  refine nK (J:=λi Γ=>∃ x,Γ=[some (.val (webD n rs)),some (.val (cameD c)),some (.val (.int h)),some (.own ((h::(((nbs rs h).take i).filter λu=>decide (some u≠c)).flatMap (Wl (nbs rs) k (some h))).map D.int)),x]) ⟨none,rfl⟩ ?_ ?_
  ·rintro i d Γ hd ⟨x,rfl⟩ KL bx - - -
   rw [getElem?_map,map_eq_some_iff] at hd
   obtain ⟨u,hu,rfl⟩:=hd
   have tk:(nbs rs h).take (i+1)=(nbs rs h).take i++[u]:=by rw [List.take_succ,hu];rfl
   rw [tk,filter_append,List.flatMap_append] at bx
   have au:=(W.nb h u).mp (mem_of_getElem? hu)
   have un:=W.in_n au
   have cf:((((nbs rs h).take i).filter λu=>decide (some u≠c)).flatMap (Wl (nbs rs) k (some h))).length<=64:=by
    refine le_trans (zc (m:=n) λx hx=>?_) ?_
    ·have:=W.in_n ((W.nb h x).mp (List.mem_of_mem_take (mem_filter.mp hx).1))
     exact wl _ _ _ (by omega) (by omega)
    ·have:=List.length_filter_le (λu=>decide (some u≠c)) ((nbs rs h).take i)
     have l4:(nbs rs h).length<=n:=by unfold nbs;rw [(oO _).length_eq];exact W.nb_len h
     rw [length_take] at this
     exact le_trans (Nat.mul_le_mul (le_trans this (by omega:min i (nbs rs h).length<=8)) (by omega:n<=8)) (by decide)
   generalize (((nbs rs h).take i).filter λu=>decide (some u≠c)).flatMap (Wl (nbs rs) k (some h))=L at bx cf ⊢
   refine ⟨_,_,rfl,?_⟩
   show wp _ [some (.val (webD n rs)),some (.val (cameD c)),some (.val (.int h)),some (.own ((h::L).map D.int)),some (.val (.int u))] _
   by_cases aX:some u=c
   ·simp [dep,qg,aX]
    exact bx _ ⟨some (.val (.int u)),by simp [aX]⟩
   ·have lt:=W.mu_lt hc au aX
    have e3:=ih (some h) u (by omega) (by omega) (λx z=>by cases z;exact au) (by omega)
    have lw:=wl k (some h) u (by omega) (by omega)
    change cvF (nP k) [webD n rs,.int h,.int u]=_ at e3
    simp [dep,qg,aX,isMut,R.mut,e3]
    exact ⟨by omega,bx _ ⟨some (.val (.int u)),by simp [aX]⟩⟩
  ·rintro Γ ⟨x,rfl⟩
   refine hK _ ?_
   rw [length_map,List.take_length]
   exact ⟨_,_,rfl,k1 _ ⟨_,rfl⟩⟩
theorem Cp {n:Nat}{rs:List (Int×Int)}{rk:Int->Nat} (W:Web n rs rk){c h:Int} (a:Adj rs c h):coF p8 [webD n rs,.int c,.int h]=some ((sortI (Wl (nbs rs) 20 (some c) h)).map D.int):=by
 obtain ⟨h0,h1,h2,h3⟩:=W.in_n a
 have e1:=Aw W a
 have e2:=BV W 20 (some c) h h2 h3 (λx z=>by cases z;exact a) (Cg W a)
 change cvF (nP 20) [webD n rs,.int c,.int h]=_ at e2
 have l1:=W.wl_len 20 (some c) h h2 h3
 have l2:=W.n8
 have e3:=rz (xs:=Wl (nbs rs) 20 (some c) h) (by omega)
 refine ra rfl λKE k1=>?_
 rw [rV]
 refine ml ?_;rintro K hK -
 simp [e1]
 refine hK _ ?_
 simp [e2,e3]
 exact k1 _ ⟨_,rfl⟩
noncomputable def mkR (a b:Int):Int×Int:=(if b < a then b else a,if b > a then b else a)
theorem qj {a b:Int} (h:a≠b):(mkR a b=(a,b)/\a < b)\/(mkR a b=(b,a)/\b < a):=by
 unfold mkR
 by_cases l:b < a
 ·exact .inr ⟨by rw [if_pos l,if_neg (by omega)],l⟩
 ·exact .inl ⟨by rw [if_neg l,if_pos (by omega)],by omega⟩
structure LOk (m:Nat) (L:List (Nat×Nat)):Prop where
 inc:L.Pairwise λp q=>p.1 < q.1
 ok:∀ q∈L,1<=q.1/\q.1 < m/\q.2 < q.1
theorem wb {L:List (Nat×Nat)} (h:L.Pairwise λp q=>p.1 < q.1){p q:Nat×Nat} (hp:p∈L) (hq:q∈L) (e:p.1=q.1):p=q:=by
 induction L with
 | nil=>cases hp
 | cons x L ih =>
  rw [pairwise_cons] at h
  rcases mem_cons.mp hp with eF | eF<;>rcases mem_cons.mp hq with bR | bR
  ·rw [eF,bR]
  ·have:=h.1 q bR;rw [← eF] at this;omega
  ·have:=h.1 p eF;rw [← bR] at this;omega
  ·exact ih h.2 eF bR
noncomputable def atO (os:List Int) (k:Nat):Int:=os.getD k 0
noncomputable def roadsO (os:List Int) (L:List (Nat×Nat)):List (Int×Int):=L.map λq=>mkR (atO os q.1) (atO os q.2)
section
variable {os:List Int}{m:Nat}{L:List (Nat×Nat)}
theorem sA {k:Nat} (h:k < os.length):atO os k=os[k]:=by
 unfold atO
 rw [getD_eq_getElem?_getD,getElem?_eq_getElem h];rfl
theorem nv (nd:os.Nodup){k:Nat} (h:k < os.length):os.idxOf (atO os k)=k:=by
 rw [sA h];exact nd.idxOf_getElem k h
theorem nD (nd:os.Nodup){j k:Nat} (hj:j < os.length) (hk:k < os.length) (e:atO os j=atO os k):j=k:=by
 have h1:=nv nd hj
 rw [e,nv nd hk] at h1
 exact h1.symm
theorem qb (hl:os.length=m) (nd:os.Nodup) (ok:LOk m L){rs:List (Int×Int)} (hp:rs.Perm (roadsO os L)){x y:Int} (h:Adj rs x y):∃ q∈L,(x=atO os q.1/\y=atO os q.2)\/(x=atO os q.2/\y=atO os q.1):=by
 have go:∀ a b,(a,b)∈rs->∃ q∈L,(a=atO os q.1/\b=atO os q.2)\/(a=atO os q.2/\b=atO os q.1):=λa b h=>by
  rw [hp.mem_iff] at h
  obtain ⟨q,hq,e⟩:=mem_map.mp h
  have o:=ok.ok q hq
  have ne:atO os q.1≠atO os q.2:=λz=>by have:=nD nd (by omega) (by omega) z;omega
  refine ⟨q,hq,?_⟩
  rcases qj ne with ⟨e1,_⟩ | ⟨e1,_⟩<;>rw [e1] at e<;>cases e
  ·exact .inl ⟨rfl,rfl⟩
  ·exact .inr ⟨rfl,rfl⟩
 rcases h with h | h
 ·exact go x y h
 ·obtain ⟨q,hq,z⟩:=go y x h
  exact ⟨q,hq,z.elim (λz=>.inr ⟨z.2,z.1⟩) λz=>.inl ⟨z.2,z.1⟩⟩
theorem xP (hl:os.length=m) (nd:os.Nodup) (rng:∀ x∈os,0<=x/\x < m) (ok:LOk m L) (m1:1<=m) (m8:m<=8){rs:List (Int×Int)} (hp:rs.Perm (roadsO os L)):Web m rs λv=>os.idxOf v:=by
 have eT:∀ k,k < m->0<=atO os k/\atO os k < m:=λk hk=>by
  rw [sA (by omega)];exact rng _ (getElem_mem _)
 have nq:∀ q∈L,atO os q.1≠atO os q.2:=λq hq z=>by
  have o:=ok.ok q hq
  have:=nD nd (by omega) (by omega) z
  omega
 refine ⟨m1,m8,λr hr=>?_,hp.symm.nodup (pp (ok.inc.imp λh e=>by rw [e] at h;exact absurd h (lt_irrefl _)) λp hV q hW e=>?_),λa b h=>?_,λa b h=>?_,λv a b ha hb la lb=>?_⟩
 ·rw [hp.mem_iff] at hr
  obtain ⟨q,hq,rfl⟩:=mem_map.mp hr
  have o:=ok.ok q hq
  have i1:=eT q.1 (by omega)
  have i2:=eT q.2 (by omega)
  rcases qj (nq q hq) with ⟨e,l⟩ | ⟨e,l⟩<;>rw [e]<;>simp only<;>omega
 ·have o:=ok.ok p hV
  have o':=ok.ok q hW
  refine wb ok.inc hV hW ?_
  rcases qj (nq p hV) with ⟨e1,_⟩ | ⟨e1,_⟩<;>rcases qj (nq q hW) with ⟨e2,_⟩ | ⟨e2,_⟩<;>rw [e1,e2,Prod.mk.injEq] at e
  ·exact nD nd (by omega) (by omega) e.1
  ·have h1:=nD nd (by omega) (by omega) e.1
   have h2:=nD nd (by omega) (by omega) e.2
   omega
  ·have h1:=nD nd (by omega) (by omega) e.1
   have h2:=nD nd (by omega) (by omega) e.2
   omega
  ·exact nD nd (by omega) (by omega) e.2
 ·obtain ⟨q,hq,z⟩:=qb hl nd ok hp h
  have o:=ok.ok q hq
  rcases z with ⟨rfl,rfl⟩ | ⟨rfl,rfl⟩<;>rw [nv nd (by omega),nv nd (by omega)]<;>omega
 ·obtain ⟨q,hq,z⟩:=qb hl nd ok hp h
  have o:=ok.ok q hq
  rcases z with ⟨rfl,rfl⟩ | ⟨rfl,rfl⟩<;>rw [nv nd (by omega)]<;>omega
 ·obtain ⟨q,hq,z⟩:=qb hl nd ok hp ha
  obtain ⟨q',bR,z'⟩:=qb hl nd ok hp hb
  have o:=ok.ok q hq
  have o':=ok.ok q' bR
  have e1:v=atO os q.1/\a=atO os q.2:=by
   rcases z with z | ⟨rfl,rfl⟩
   ·exact z
   ·rw [nv nd (by omega),nv nd (by omega)] at la;omega
  have e2:v=atO os q'.1/\b=atO os q'.2:=by
   rcases z' with z' | ⟨rfl,rfl⟩
   ·exact z'
   ·rw [nv nd (by omega),nv nd (by omega)] at lb;omega
  have:=wb ok.inc hq bR (nD nd (by omega) (by omega) (e1.1.symm.trans e2.1))
  subst this
  rw [e1.2,e2.2]
end
@[simp ↓] theorem DC {i:Nat}{t:M (List D)}{Γ:Gm}{Q:Fl->Gm->Prop}:wp (insS i t) Γ Q↔isMut Γ i=true/\wp t Γ λds Γ1=>wp (wr i (insF ds)) Γ1 λ_ ai=>Q .nx ai:=by
 simp only [insS,oN,mL,pK]
theorem Bb {n:Nat}{d:D}{ds:List D} (h:n<=ds.length) (l:ds.length < 1000):insF [.int n,d] ds=some (ds.take n++d::ds.drop n):=by
 unfold insF
 dsimp only
 rw [if_pos ⟨by omega,by omega,by unfold lim;omega⟩,Int.toNat_natCast]
theorem Bu {c:List D}{m:Nat}{Q:R->List D->Prop} (hc:PotOk c) (hm:m<=8) (k:∀ (os:List Int) c',os.length=m->os.Nodup->(∀ x∈os,0<=x/\x < m)->PotOk c'->Q (.val (.lst (os.map D.int))) c'):wpB pE c [.int m] Q:=by
 refine qi rfl λKE hE _=>?_
 rw [rM]
 refine ml ?_;rintro K hK -
 refine ⟨_,_,rfl,hK _ ?_⟩
 show wp _ [some (.bor c),some (.val (.int m)),some (.own []),none] _
 refine ml ?_;rintro K hK -
 simp
 refine ⟨by omega,?_⟩
 refine nK (J:=λi Γ=>∃ (c:List D) (os:List Int) (x:Option R),PotOk c/\os.length=i/\os.Nodup/\(∀ x∈os,0<=x/\x < i)/\Γ=[some (.bor c),some (.val (.int m)),some (.own (os.map D.int)),x]) ⟨c,[],none,hc,rfl,nodup_nil,by simp,rfl⟩ ?_ ?_
 ·rintro i d Γ hd ⟨c,os,x,hc,hl,nd,rg,rfl⟩ KL bx - - -
  obtain ⟨rfl,hi⟩:=qZ hd
  simp [isMut,R.mut]
  refine n5 hc (by omega) (by omega) λn c' ju gO aX=>?_
  obtain ⟨n,rfl⟩:=Int.eq_ofNat_of_zero_le ju
  have e1:=Bb (n:=n) (d:=.int i) (ds:=os.map D.int) (by simp;omega) (by simp;omega)
  simp [e1]
  refine bx _ ⟨c',os.take n++(i:Int)::os.drop n,some (.val (.int i)),aX,?_,?_,?_,by simp⟩
  ·simp;omega
  ·have pm:(os.take n++(i:Int)::os.drop n).Perm ((i:Int)::os):=by
    have:=List.perm_middle (a:=(i:Int)) (l₁:=os.take n) (l₂:=os.drop n)
    rwa [List.take_append_drop] at this
   refine pm.symm.nodup (nodup_cons.mpr ⟨λz=>?_,nd⟩)
   have:=rg _ z
   omega
  ·intro x hx
   have:x=i\/x∈os:=by
    rcases mem_append.mp hx with z | z
    ·exact .inr (List.mem_of_mem_take z)
    ·rcases mem_cons.mp z with z | z
     ·exact .inl z
     ·exact .inr (List.mem_of_mem_drop z)
   rcases this with rfl | z
   ·omega
   ·have:=rg x z;omega
 ·rintro Γ ⟨c,os,x,hc,hl,nd,rg,rfl⟩
  refine hK _ ?_
  rw [vm] at hl rg
  simp
  exact hE _ _ _ ⟨_,rfl⟩ (k os c hl nd rg hc)
theorem y9 {p:Int×Int}:dep (pairD p)<=1:=by
 unfold pairD
 simp [dep,depA]
theorem A3 {ps:List (Int×Int)} (h:ps.length < 64):∃ rs:List (Int×Int),sortF [.lst (ps.map pairD)]=some (rs.map pairD)/\rs.Perm ps:=by
 refine ⟨ps.mergeSort λp q=>leD (pairD p) (pairD q),?_,List.mergeSort_perm _ _⟩
 rw [sQ]
 ·unfold sortD
  exact congrArg some (List.map_mergeSort (s:=leD) (f:=pairD) λa _ b _=>rfl).symm
 ·refine ⟨by simpa using h,?_,?_,.inr (.inl ?_)⟩
  ·unfold cmAll
   rw [all_eq_true]
   intro a ha
   rw [all_eq_true]
   intro b hb
   obtain ⟨i,_,rfl⟩:=mem_map.mp ha
   obtain ⟨j,_,rfl⟩:=mem_map.mp hb
   simp [pairD,cmB,cmA]
  ·refine le_trans (uC (n:=1) λd hd=>?_) (by omega)
   obtain ⟨p,_,rfl⟩:=mem_map.mp hd
   exact y9
  ·rw [all_eq_true]
   intro a ha
   obtain ⟨i,_,rfl⟩:=mem_map.mp ha
   rfl
theorem BI {c:List D}{Q:R->List D->Prop} (hc:PotOk c) (k:∀ n rs rk c',Web n rs rk->PotOk c'->Q (.val (webD n rs)) c'):wpB qH c [.int 8] Q:=by
 refine qi rfl λKE hE _=>?_
 rw [qQ]
 refine ml ?_;rintro K hK -
 simp [isMut,R.mut]
 refine n5 hc (by omega) (by omega) λeG c1 lX cx hc=>?_
 simp
 refine hK _ ?_
 refine ml ?_;rintro K hK -
 simp [isMut,R.mut]
 refine n5 hc (by omega) (by omega) λm0 c2 cR fe hc=>?_
 obtain ⟨m,hm⟩:∃ m:Nat,1+m0=m:=⟨(1+m0).toNat,by omega⟩
 simp [hm]
 refine hK _ ?_
 refine ml ?_;rintro K hK -
 simp [isMut,R.mut]
 refine Bu hc (by omega) λos c3 hl nd rg hc=>?_
 simp
 refine hK _ ?_
 refine ml ?_;rintro K hK -
 refine ⟨_,_,rfl,hK _ ?_⟩
 show wp _ [some (.bor c3),some (.val (.int 8)),some (.val (.int eG)),some (.val (.int m)),some (.val (.lst (os.map D.int))),some (.own []),none,none] _
 refine ml ?_;rintro K hK -
 simp
 refine ⟨by omega,?_⟩
 have jv:∀ j,j < m->atI (os.map D.int) ((j:Nat):Int)=some (.int (atO os j)):=λj hj=>by
  rw [DL.oH,sA (by omega)]
  simp [hl,hj]
 refine nK (J:=λi Γ=>∃ (c:List D) (L:List (Nat×Nat)) (x6 x7:Option R),PotOk c/\LOk (i+1) L/\L.length<=i/\Γ=[some (.bor c),some (.val (.int 8)),some (.val (.int eG)),some (.val (.int m)),some (.val (.lst (os.map D.int))),some (.own ((roadsO os L).map pairD)),x6,x7]) ⟨c3,[],none,none,hc,⟨List.Pairwise.nil,by simp⟩,le_refl _,rfl⟩ ?_ ?_
 ·rintro i d Γ hd ⟨c,L,x6,x7,hc,ok,ll,rfl⟩ KL bx - - -
  obtain ⟨rfl,hi⟩:=qZ hd
  have up:LOk (i+1+1) L:=⟨ok.inc,λq hq=>by have:=ok.ok q hq;omega⟩
  obtain ⟨kk,lg⟩:∃ kk:Nat,(1:Int)+i=kk:=⟨1+i,by omega⟩
  rw [lg]
  simp [isMut,R.mut]
  refine n5 hc (by omega) (by omega) λn1 c4 ju gO hc=>?_
  simp
  split
  ·refine ml ?_;rintro K hK -
   have a1:=jv kk (by omega)
   simp [isMut,R.mut,a1]
   refine n5 hc (by omega) (by omega) λj c5 lh lY hc=>?_
   obtain ⟨j,rfl⟩:=Int.eq_ofNat_of_zero_le lh
   have a2:=jv j (by omega)
   simp [a2]
   refine hK _ ?_
   simp [isMut,R.mut,minTF,maxTF]
   have ln:(roadsO os L).length=L.length:=by simp [roadsO]
   refine ⟨by omega,bx _ ⟨c5,L++[(kk,j)],some (.val (.int kk)),some (.val (.tup [.int (atO os kk),.int (atO os j)])),hc,⟨?_,?_⟩,by simp;omega,?_⟩⟩
   ·rw [List.pairwise_append]
    refine ⟨ok.inc,by simp,λp hp q hq=>?_⟩
    rw [mem_singleton.mp hq]
    have:=ok.ok p hp
    simp only
    omega
   ·intro q hq
    rcases mem_append.mp hq with hq | hq
    ·exact up.ok q hq
    ·rw [mem_singleton.mp hq]
     simp only
     omega
   ·simp [roadsO,mkR,pairD]
  ·exact bx _ ⟨c4,L,_,_,hc,up,by omega,rfl⟩
 ·rintro Γ ⟨c,L,x6,x7,hc,ok,ll,rfl⟩
  refine hK _ ?_
  rw [vm] at ok ll
  have mm:m - 1+1=m:=by omega
  rw [mm] at ok
  obtain ⟨rs,e1,hp⟩:=A3 (ps:=roadsO os L) (by simp [roadsO];omega)
  simp [e1]
  exact hE _ _ _ ⟨_,rfl⟩ (k m rs _ c (xP hl nd rg ok (by omega) (by omega) hp) hc)
theorem sR {α:Type}{a b:M α}{Γ:Gm}{Q:α->Gm->Prop} (h:wp a Γ Q):wp (altM a b) Γ Q:=by
 obtain ⟨x,ac,e,q⟩:=h
 exact ⟨x,ac,by unfold altM;rw [e],q⟩
theorem t4 {α:Type}{a b:M α}{Γ:Gm}{Q:α->Gm->Prop} (e:a Γ=none) (h:wp b Γ Q):wp (altM a b) Γ Q:=by
 obtain ⟨x,ac,e',q⟩:=h
 exact ⟨x,ac,by unfold altM;rw [e];exact e',q⟩
structure MixN (g:List R->Option (R×List R)) (ds:List D):Prop where
 co:coF g ds=none
 cv:cvF g ds=some .non
theorem rQ {g:List R->Option (R×List R)}{ds:List D}{o:Option (List D)} (h:wpF g (ds.map .val) λr _=>r=(match o with | some l=>R.own l | none=>R.val .non)):(∀ l,o=some l->coF g ds=some l)/\(o=none->MixN g ds):=by
 obtain ⟨r,aK,e,hr⟩:=h
 refine ⟨λl z=>?_,λz=>⟨?_,?_⟩⟩
 ·subst z;subst hr;unfold coF;rw [e]
 ·subst z;subst hr;unfold coF;rw [e]
 ·subst z;subst hr;unfold cvF;rw [e]
section
variable {g:List R->Option (R×List R)}{t:M (List D)}{Γ Γ1:Gm}{ds l:List D}{i:Nat}
theorem oZ {α:Type}{F:List D->Option α} (ht:t Γ=some (ds,Γ1)) (e:F ds=none):fn1 F t Γ=none:=by
 unfold fn1 bnd
 rw [ht]
 show lft (F ds) Γ1=none
 rw [e];rfl
theorem pM {α:Type}{F:List D->Option α}{x:α} (ht:t Γ=some (ds,Γ1)) (e:F ds=some x):fn1 F t Γ=some (x,Γ1):=by
 unfold fn1 bnd
 rw [ht]
 show lft (F ds) Γ1=_
 rw [e];rfl
theorem vb {α Y:Type}{m:M α}{f:α->M Y} (h:m Γ=none):bnd m f Γ=none:=by unfold bnd;rw [h]
theorem rj {α Y:Type}{m:M α}{f:α->M Y}{x:α} (h:m Γ=some (x,Γ1)):bnd m f Γ=f x Γ1:=by unfold bnd;rw [h]
theorem tV {Q:D->Gm->Prop} (ht:t Γ=some (ds,Γ1)) (e:coF g ds=some l) (q:Q (.lst l) Γ1):wp (altM (frz (fn1 (coF g) t)) (fn1 (cvF g) t)) Γ Q :=
 sR ⟨_,_,by unfold frz;rw [rj (pM ht e)];rfl,q⟩
theorem vC {Q:D->Gm->Prop} (ht:t Γ=some (ds,Γ1)) (e:MixN g ds) (q:Q .non Γ1):wp (altM (frz (fn1 (coF g) t)) (fn1 (cvF g) t)) Γ Q :=
 t4 (by unfold frz;exact vb (oZ ht e.co)) ⟨_,_,pM ht e.cv,q⟩
theorem AI {Q:Fl->Gm->Prop} (ht:t Γ=some (ds,Γ1)) (e:coF g ds=some l) (q:Q (.rt (.own l)) Γ1):wp (altM (retO (fn1 (coF g) t)) (retS (fn1 (cvF g) t))) Γ Q :=
 sR ⟨_,_,by unfold retO;rw [rj (pM ht e)];rfl,q⟩
theorem Ab {Q:Fl->Gm->Prop} (ht:t Γ=some (ds,Γ1)) (e:MixN g ds) (q:Q (.rt (.val .non)) Γ1):wp (altM (retO (fn1 (coF g) t)) (retS (fn1 (cvF g) t))) Γ Q :=
 t4 (by unfold retO;exact vb (oZ ht e.co)) ⟨_,_,by unfold retS;rw [rj (pM ht e.cv)];rfl,q⟩
end
noncomputable def Wy (N:Int->List Int):Nat->Option Int->Int->Int->Option (List Int)
 | 0,_,_,_=>none
 | k+1,c,h,t=>if h=t then some [h] else (((N h).filter λu=>decide (some u≠c)).findSome? λu=>Wy N k (some h) u t).map (h::·)
theorem rT {α Y:Type}{f:α->Option Y}{r:Y}{x:α}:∀ {l:List α},x∈l->f x=some r->(∀ y∈l,(f y).isSome=true->y=x)->l.findSome? f=some r
 | [],hx,_,_=>by cases hx
 | y::l,hx,hf,hu=>by
  rw [List.findSome?_cons]
  cases e:f y with
  | some r' =>
   have:=hu y mem_cons_self (by rw [e];rfl)
   subst this
   rw [e] at hf
   exact hf
  | none =>
   refine rT ?_ hf λz hz=>hu z (mem_cons_of_mem _ hz)
   rcases mem_cons.mp hx with rfl | hx
   ·rw [e] at hf;cases hf
   ·exact hx
section
variable {n:Nat}{rs:List (Int×Int)}{rk:Int->Nat}{N:Int->List Int}
theorem oV:∀ {k:Nat}{c:Option Int}{h t:Int}{p:List Int},Wy N k c h t=some p->t∈Wl N k c h/\p.length<=k
 | 0,_,_,_,_,e=>by cases e
 | k+1,c,h,t,p,e=>by
  rw [Wy] at e
  by_cases ht:h=t
  ·rw [if_pos ht] at e
   cases e
   subst ht
   exact ⟨sL,by simp⟩
  ·rw [if_neg ht,map_eq_some_iff] at e
   obtain ⟨q,e,rfl⟩:=e
   obtain ⟨u,hu,e⟩:=List.exists_of_findSome?_eq_some e
   rw [mem_filter,decide_eq_true_eq] at hu
   have:=oV e
   exact ⟨o9.mpr (.inr ⟨u,hu.1,hu.2,this.1⟩),by simp;exact this.2⟩
theorem Web.ext (W:Web n rs rk) (hN:∀ v u,u∈N v↔Adj rs v u):∀ (k:Nat) (c:Option Int) (h v u:Int) (p:List Int),(∀ x,c=some x->Adj rs x h)->mu rk c h < k->Wy N k c h v=some p->u∈N v->some u≠c->u∉p->Wy N k c h u=some (p++[u])
 | 0,_,_,_,_,_,_,_,e,_,_,_=>by cases e
 | k+1,c,h,v,u,p,hc,hm,e,hu,uc,up=>by
  have jw:∀ x y,x∈N h->y∈N h->u∈Wl N k (some h) x->u∈Wl N k (some h) y->x=y:=λx y hx hy=>W.apart hN ((hN h x).mp hx) ((hN h y).mp hy)
  rw [Wy] at e
  by_cases hv:h=v
  ·rw [if_pos hv] at e
   cases e
   subst hv
   have uh:¬ h=u:=λz=>up (by rw [z];simp)
   have au:=(hN h u).mp hu
   have lt:=W.mu_lt hc au uc
   rw [Wy,if_neg uh]
   have one:Wy N k (some h) u u=some [u]:=by
    cases k with
    | zero=>omega
    | succ k=>rw [Wy,if_pos rfl]
   have:(((N h).filter λu=>decide (some u≠c)).findSome? λx=>Wy N k (some h) x u)=some [u]:=rT (x:=u) (mem_filter.mpr ⟨hu,by simpa using uc⟩) one λy hy s=>by
    obtain ⟨q,s⟩:=Option.isSome_iff_exists.mp s
    exact jw y u (mem_filter.mp hy).1 hu (oV s).1 sL
   rw [this];rfl
  ·rw [if_neg hv,map_eq_some_iff] at e
   obtain ⟨q,e,rfl⟩:=e
   obtain ⟨x,hx,e⟩:=List.exists_of_findSome?_eq_some e
   have cB:=hx
   rw [mem_filter,decide_eq_true_eq] at cB
   have ax:=(hN h x).mp cB.1
   have lt:=W.mu_lt hc ax cB.2
   have uh:u≠h:=λz=>up (by rw [z];simp)
   have uq:u∉q:=λz=>up (mem_cons_of_mem _ z)
   have ih:=W.ext hN k (some h) x v u q (λy z=>by cases z;exact ax) (by omega) e hu (λz=>uh (by cases z;rfl)) uq
   rw [Wy,if_neg (λz=>uh z.symm)]
   have:(((N h).filter λu=>decide (some u≠c)).findSome? λx=>Wy N k (some h) x u)=some (q++[u]):=rT hx ih λy hy s=>by
    obtain ⟨q,s⟩:=Option.isSome_iff_exists.mp s
    exact jw y x (mem_filter.mp hy).1 cB.1 (oV s).1 (oV ih).1
   rw [this];rfl
end
noncomputable def wyR (o:Option (List Int)):R:=match o.map (·.map D.int) with
 | some l=>.own l
 | none=>.val .non
theorem xF {p:Int->Bool}{f:Int->Option (List Int)}{l:List Int}{i:Nat}{u:Int}{q:List Int} (hu:l[i]?=some u) (hp:p u=true) (hf:f u=some q) (hn:∀ x∈(l.take i).filter p,f x=none):(l.filter p).findSome? f=some q:=by
 obtain ⟨hi,hu⟩:=List.getElem?_eq_some_iff.mp hu
 have e:l=l.take i++u::l.drop (i+1):=by
  rw [← hu,← drop_eq_getElem_cons hi,List.take_append_drop]
 rw [e,filter_append,List.findSome?_append,List.findSome?_eq_none_iff.mpr hn,List.filter_cons_of_pos hp,List.findSome?_cons,hf]
 rfl
theorem AG {n:Nat}{rs:List (Int×Int)}{rk:Int->Nat} (W:Web n rs rk):∀ (k:Nat) (c:Option Int) (h t:Int),k<=100->0<=h->h < n->(∀ x,c=some x->Adj rs x h)->mu rk c h < k->wpF (nI k) ([webD n rs,cameD c,D.int h,D.int t].map .val) λr _=>r=wyR (Wy (nbs rs) k c h t):=by
 intro k
 induction k with
 | zero=>intro c h t _ _ _ _ hm;omega
 | succ k ih =>
  intro c h t ls h0 h1 hc hm
  have e1:=o0 W h0 h1
  rw [nI]
  refine nU rfl λKE hE _=>?_
  rw [qC]
  rw [Wy] at hE
  refine ml ?_;rintro K hK hR
  by_cases ht:h=t
  ·rw [if_pos ht] at hE
   subst ht
   simp [dep,oh]
   exact hR _ _ (hE _ _ ⟨_,rfl,rfl⟩)
  ·rw [if_neg ht] at hE
   simp [dep,oh,ht]
   refine hK _ ?_
   refine ml ?_;rintro K hK li
   simp [e1]
   refine nK (J:=λi Γ=>∃ x4 x5,(∀ u∈((nbs rs h).take i).filter λu=>decide (some u≠c),Wy (nbs rs) k (some h) u t=none)/\Γ=[some (.val (webD n rs)),some (.val (cameD c)),some (.val (.int h)),some (.val (.int t)),x4,x5]) ⟨none,none,by simp,rfl⟩ ?_ ?_
   ·rintro i d Γ hd ⟨x4,x5,no,rfl⟩ KL bx - - lj
    rw [getElem?_map,map_eq_some_iff] at hd
    obtain ⟨u,hu,rfl⟩:=hd
    have tk:(nbs rs h).take (i+1)=(nbs rs h).take i++[u]:=by rw [List.take_succ,hu];rfl
    have au:=(W.nb h u).mp (mem_of_getElem? hu)
    have un:=W.in_n au
    refine ⟨_,_,rfl,?_⟩
    show wp _ [some (.val (webD n rs)),some (.val (cameD c)),some (.val (.int h)),some (.val (.int t)),some (.val (.int u)),x5] _
    by_cases uc:some u=c
    ·simp [dep,qg,uc]
     refine bx _ ⟨_,_,λx hx=>no x ?_,rfl⟩
     rw [tk,filter_append] at hx
     simpa [uc] using hx
    ·have lt:=W.mu_lt hc au uc
     have w1:=ih (some h) u t (by omega) (by omega) (by omega) (λx z=>by cases z;exact au) (by omega)
     obtain ⟨m1,m2⟩:=rQ w1
     simp [dep,qg,uc]
     refine ml ?_;rintro K2 fy -
     cases e:Wy (nbs rs) k (some h) u t with
     | some q =>
      have e3:=m1 _ (by rw [e];rfl)
      have lq:=(oV e).2
      simp only [vR]
      refine tV rfl e3 ?_
      refine ⟨by simp,fy _ ?_⟩;clear fy
      show wp _ [some (.val (webD n rs)),some (.val (cameD c)),some (.val (.int h)),some (.val (.int t)),some (.val (.int u)),some (.val (.lst (q.map D.int)))] _
      simp [isN,isNF]
      refine ⟨by omega,lj _ _ (li _ _ (hE _ _ ⟨_,rfl,?_⟩))⟩
      rw [xF hu (by simpa using uc) e no]
      rfl
     | none =>
      have e3:=m2 (by rw [e];rfl)
      simp only [vR]
      refine vC rfl e3 ?_
      refine ⟨by simp,fy _ ?_⟩;clear fy
      show wp _ [some (.val (webD n rs)),some (.val (cameD c)),some (.val (.int h)),some (.val (.int t)),some (.val (.int u)),some (.val .non)] _
      simp [isN,isNF]
      refine bx _ ⟨_,_,λx hx=>?_,rfl⟩
      rw [tk,filter_append] at hx
      rcases mem_append.mp hx with hx | hx
      ·exact no x hx
      ·rw [mem_singleton.mp (mem_filter.mp hx).1];exact e
   ·rintro Γ ⟨x4,x5,no,rfl⟩
    rw [length_map,List.take_length] at no
    refine hK _ ?_
    refine ⟨_,_,rfl,?_⟩
    refine hE _ _ ⟨_,rfl,?_⟩
    rw [List.findSome?_eq_none_iff.mpr no]
    rfl
theorem xG {n:Nat}{rs:List (Int×Int)}{rk:Int->Nat} (W:Web n rs rk){a b:Int} (a0:0<=a) (a1:a < n) (b0:0<=b) (b1:b < n):wpF oQ ([webD n rs,D.int a,D.int b].map .val) λr _=>r=wyR (Wy (nbs rs) 20 none a b):=by
 have e1:=ox (rs:=rs) a0 a1
 have e2:=ox (rs:=rs) b0 b1
 have w:=AG W 20 none a b (by omega) a0 a1 (λx z=>by cases z) (by simp [mu])
 change wpF (nI 20) ([webD n rs,D.non,D.int a,D.int b].map .val) _ at w
 obtain ⟨m1,m2⟩:=rQ w
 refine nU rfl λKE hE _=>?_
 rw [rW]
 refine ml ?_;rintro K hK -
 simp [e1]
 refine hK _ ?_
 refine ml ?_;rintro K hK -
 simp [e2]
 refine hK _ ?_
 cases e:Wy (nbs rs) 20 none a b with
 | some q =>
  rw [e] at hE
  exact AI rfl (m1 _ (by rw [e];rfl)) (hE _ _ ⟨_,rfl,rfl⟩)
 | none =>
  rw [e] at hE
  exact Ab rfl (m2 (by rw [e];rfl)) (hE _ _ ⟨_,rfl,rfl⟩)
theorem rJ {n:Option Int}:cvF nB [.exc "NoHouse" n]=some (.str "house"):=by kernel_rfl
theorem Ao {n:Option Int}:cvF nB [.exc "NoRoad" n]=some (.str "road"):=by kernel_rfl
theorem rb {g:M Fl}{m:M Nat}{j i:Nat}{Γ:Gm}{Q:Fl->Gm->Prop} (h:m Γ=none) (k:wp g Γ Q):wp (tryE g m j i) Γ Q:=by
 unfold wp tryE
 rw [h]
 exact k
theorem pU {g:M Fl}{m:M Nat}{j i c:Nat}{Γ Γ1 ai:Gm}{Q:Fl->Gm->Prop} (h:m Γ=some (c,Γ1)) (e:(bnd (putS j (.val (.exc (xNm c) none))) λ_=>bnd (setV i (nm j)) λ_=>bnd (clr j) λ_=>ret Fl.nx) Γ1=some (Fl.nx,ai)) (k:Q Fl.nx ai):wp (tryE g m j i) Γ Q:=by
 unfold wp tryE
 rw [h]
 exact ⟨_,_,e,k⟩
theorem oM {α:Type}{m:M α}{Γ ai:Gm}{v:α} (h:wp m Γ λx ac=>x=v/\ac=ai):m Γ=some (v,ai):=by
 obtain ⟨_,_,e,rfl,rfl⟩:=h
 exact e
section
variable {n:Nat}{rs:List (Int×Int)}{rk:Int->Nat}{a b:Int}
noncomputable def isH (n:Nat) (a:Int):Bool:=decide (0<=a)&&decide (a < n)
theorem wI {Γ:Gm} (g1:Γ[1]?=some (some (.val (.int a)))) (g0:Γ[0]?=some (some (.val (webD n rs)))):notT (tst (chn leI ltI (ret (.int 0)) (nm 1) (op2 ixF (nm 0) (ret (.int 0))))) Γ=some (!isH n a,Γ):=by
 refine oM ?_
 unfold isH
 by_cases h0:0<=a<;>simp [g0,g1,webD,h0]
theorem oX (f:few9 a):nM [webD n rs,.int a]=if isH n a then none else some 1:=by
 have t:=wI (n:=n) (rs:=rs) (a:=a) (Γ:=[some (.val (webD n rs)),some (.val (.int a))]) rfl rfl
 show (ifX _ _ _ [some (.val (webD n rs)),some (.val (.int a))]).map _=_
 cases h:isH n a<;>simp [ifX,bnd,t,h,raX,consA,ret,nilA,lft,nvX,un1,f1F,nm,f]
theorem yN (h:isH n a=true):cvF mQ [webD n rs,.int a]=some .non:=by
 unfold isH at h
 simp only [and_eq_true,decide_eq_true_eq] at h
 exact ox h.1 h.2
theorem Bw (f:few9 a):pj [webD n rs,.int a]=if isH n a then none else some 1:=by
 show (fnX _ _ [some (.val (webD n rs)),some (.val (.int a))]).map _=_
 have:=oX (rs:=rs) (n:=n) f
 cases h:isH n a<;>simp [fnX,bnd,consA,ret,nilA,lft,nm,this,h]
theorem so {Γ:Gm}{i:Nat} (h:isH n a=true) (g0:Γ[0]?=some (some (.val (webD n rs)))) (gi:Γ[i]?=some (some (.val (.int a)))):dropS (fn1 (cvF mQ) (consA (nm 0) (consA (nm i) nilA))) Γ=some (Fl.nx,Γ):=by
 refine oM ?_
 simp [g0,gi,yN h]
theorem mR {gx:List D->Option Nat}{t:M (List D)}{Γ:Gm}{ds:List D} (ht:t Γ=some (ds,Γ)):fnX gx t Γ=(gx ds).map λc=>(c,Γ):=by
 unfold fnX bnd
 rw [ht]
 dsimp only
 unfold lft
 cases gx ds<;>rfl
theorem qK {m m':M Nat}{Γ:Gm}{r:Nat×Gm} (h:m Γ=some r):orX m m' Γ=some r:=by unfold orX;rw [h]
theorem rH {m m':M Nat}{Γ:Gm} (h:m Γ=none):orX m m' Γ=m' Γ:=by unfold orX;rw [h]
theorem sw {g:M Fl}{m:M Nat}{Γ Γ1:Gm} (h:g Γ=some (Fl.nx,Γ1)):thenX g m Γ=m Γ1:=by unfold thenX bnd;rw [h]
theorem nF {c:M Bool}{m m':M Nat}{Γ Γ1:Gm}{k:Bool} (h:c Γ=some (k,Γ1)):ifX c m m' Γ=(if k then m else m') Γ1:=by unfold ifX bnd;rw [h]
theorem AY (f:few9 a) (f':few9 b):pe [webD n rs,.int a,.int b]=if isH n a&&isH n b then none else some 1:=by
 show (orX _ (thenX _ _) [some (.val (webD n rs)),some (.val (.int a)),some (.val (.int b))]).map _=_
 have e1:=oX (rs:=rs) (n:=n) f
 have e2:=oX (rs:=rs) (n:=n) f'
 cases h:isH n a with
 | false=>rw [qK (by rw [mR rfl,e1,h];rfl)];rfl
 | true =>
  rw [rH (by rw [mR rfl,e1,h];rfl),sw (so h rfl rfl),mR rfl,e2]
  cases isH n b<;>rfl
theorem ql:isH n a=true↔0<=a/\a < n:=by simp [isH]
theorem uu:inF true (.int b) (.lst ((nbs rs a).map D.int))=some (.bl (!decide (b∈nbs rs a))):=by
 unfold inF
 simp only [seqI,dep,sd]
 rw [if_pos (by omega)]
 have:((nbs rs a).map D.int).any (λd=>deq d (.int b))=decide (b∈nbs rs a):=by
  rw [Bool.eq_iff_iff,List.any_eq_true,decide_eq_true_eq]
  constructor
  ·rintro ⟨d,hd,e⟩
   obtain ⟨x,hx,rfl⟩:=mem_map.mp hd
   simp [deq] at e
   rw [← e];exact hx
  ·exact λh=>⟨_,mem_map.mpr ⟨b,h,rfl⟩,by simp [deq]⟩
 rw [this]
 rfl
theorem wt (W:Web n rs rk) (f:few9 a) (f':few9 b):pL [webD n rs,.int a,.int b]=if isH n a&&isH n b then (if decide (b∈nbs rs a) then none else some 2) else some 1:=by
 show (orX _ (thenX _ (orX _ (thenX _ (ifX _ _ _)))) [some (.val (webD n rs)),some (.val (.int a)),some (.val (.int b))]).map _=_
 have e1:=oX (rs:=rs) (n:=n) f
 have e2:=oX (rs:=rs) (n:=n) f'
 cases h:isH n a with
 | false=>rw [qK (by rw [mR rfl,e1,h];rfl)];rfl
 | true =>
  rw [rH (by rw [mR rfl,e1,h];rfl),sw (so h rfl rfl)]
  cases h':isH n b with
  | false=>rw [qK (by rw [mR rfl,e2,h'];rfl)];rfl
  | true =>
   rw [rH (by rw [mR rfl,e2,h'];rfl),sw (so h' rfl rfl)]
   have hb:=ql.mp h
   have e3:=o0 W hb.1 hb.2
   rw [nF (k:=!decide (b∈nbs rs a)) (Γ1:=[some (.val (webD n rs)),some (.val (.int a)),some (.val (.int b))]) (by
    refine oM ?_
    simp [e3,uu])]
   cases decide (b∈nbs rs a) with
   | true=>rfl
   | false =>
    show (raX 2 _ _).map _=_
    simp [raX,bnd,consA,ret,nilA,lft,op2,f2F,nm,f,f']
theorem wu (W:Web n rs rk) (f:few9 a) (f':few9 b):om [webD n rs,.int a,.int b]=if isH n a&&isH n b then (if decide (b∈nbs rs a) then none else some 2) else some 1:=by
 show (fnX _ _ [some (.val (webD n rs)),some (.val (.int a)),some (.val (.int b))]).map _=_
 rw [mR rfl,wt W f f']
 cases isH n a&&isH n b<;>cases decide (b∈nbs rs a)<;>rfl
noncomputable def dueS (n:Nat) (rs:List (Int×Int)) (cF:Nat) (a b:Int):PySem.Str :=
 if cF=0 then (if isH n a then "told" else "house") else if isH n a&&isH n b then (if cF=2&&!decide (b∈nbs rs a) then "road" else "told") else "house"
end
section
variable {n:Nat}{rs:List (Int×Int)}{rk:Int->Nat}{a b:Int}
theorem vx {i:Int} (h:-(10 ^ 30)<=i/\i<=10 ^ 30):few9 i:=by
 unfold few9
 exact Nat.lt_of_le_of_lt (by omega:i.natAbs<=10 ^ 30) (by decide)
theorem qv {cF:Int}{K:Fl->Gm->Prop}{eH:D} (k:K (.rt (.val (.str "told"))) [some (.val (.int cF)),some (.val eH),some (.val (.int a)),some (.val (.int b)),some (.val .non),none]):wp (retS (ifV (tst (op2 (isNF false) (nm 4) (ret .non))) (ret (.str "told")) (fn1 (cvF nB) (consA (nm 4) nilA)))) [some (.val (.int cF)),some (.val eH),some (.val (.int a)),some (.val (.int b)),some (.val .non),none] K:=by
 simp [isNF,isN]
 exact k
theorem qm {cF:Int}{K:Fl->Gm->Prop}{eH:D}{x y:PySem.Str} (e:cvF nB [.exc x none]=some (.str y)) (k:K (.rt (.val (.str y))) [some (.val (.int cF)),some (.val eH),some (.val (.int a)),some (.val (.int b)),some (.val (.exc x none)),none]):wp (retS (ifV (tst (op2 (isNF false) (nm 4) (ret .non))) (ret (.str "told")) (fn1 (cvF nB) (consA (nm 4) nilA)))) [some (.val (.int cF)),some (.val eH),some (.val (.int a)),some (.val (.int b)),some (.val (.exc x none)),none] K:=by
 simp [isNF,isN,e]
 exact k
theorem told0 (W:Web n rs rk) (f:few9 a):cvF nX [.int 0,webD n rs,.int a,.int b]=some (.str (dueS n rs 0 a b)):=by
 refine nZ rfl λKE k1 _=>?_
 rw [pw]
 refine ml λK hK _=>?_
 refine ⟨_,_,rfl,hK _ ?_⟩
 refine ml λK hK _=>?_
 show wp _ [some (.val (.int 0)),some (.val (webD n rs)),some (.val (.int a)),some (.val (.int b)),some (.val .non),none] _
 have x:=Bw (rs:=rs) (n:=n) f
 unfold dueS at k1
 rw [if_pos rfl] at k1
 cases h:isH n a with
 | true =>
  rw [h] at x k1
  refine rb (by rw [nF (k:=true) rfl,if_pos rfl,mR rfl,x];rfl) ?_
  have hb:=ql.mp h
  simp [dep,o0 W hb.1 hb.2]
  exact hK _ (qv (k1 _ ⟨_,rfl⟩))
 | false =>
  rw [h] at x k1
  refine pU (c:=1) (by rw [nF (k:=true) rfl,if_pos rfl,mR rfl,x];rfl) rfl (hK _ ?_)
  exact qm rJ (k1 _ ⟨_,rfl⟩)
theorem told1 (W:Web n rs rk) (f:few9 a) (f':few9 b):cvF nX [.int 1,webD n rs,.int a,.int b]=some (.str (dueS n rs 1 a b)):=by
 refine nZ rfl λKE k1 _=>?_
 rw [pw]
 refine ml λK hK _=>?_
 refine ⟨_,_,rfl,hK _ ?_⟩
 refine ml λK hK _=>?_
 show wp _ [some (.val (.int 1)),some (.val (webD n rs)),some (.val (.int a)),some (.val (.int b)),some (.val .non),none] _
 have x:=AY (rs:=rs) (n:=n) f f'
 unfold dueS at k1
 rw [if_neg (by decide)] at k1
 cases h:isH n a&&isH n b with
 | true =>
  rw [h] at x k1
  refine rb (by rw [nF (k:=false) rfl,if_neg Bool.false_ne_true,nF (k:=true) rfl,if_pos rfl,mR rfl,x];rfl) ?_
  rw [and_eq_true] at h
  have ha:=ql.mp h.1
  have hb:=ql.mp h.2
  obtain ⟨m1,m2⟩:=rQ (xG W ha.1 ha.2 hb.1 hb.2)
  simp [dep]
  cases e:Wy (nbs rs) 20 none a b with
  | some p=>exact tV rfl (m1 _ (by rw [e];rfl)) (hK _ (qv (k1 _ ⟨_,rfl⟩)))
  | none=>exact vC rfl (m2 (by rw [e];rfl)) (hK _ (qv (k1 _ ⟨_,rfl⟩)))
 | false =>
  rw [h] at x k1
  refine pU (c:=1) (by rw [nF (k:=false) rfl,if_neg Bool.false_ne_true,nF (k:=true) rfl,if_pos rfl,mR rfl,x];rfl) rfl (hK _ ?_)
  exact qm rJ (k1 _ ⟨_,rfl⟩)
theorem told2 (W:Web n rs rk) (f:few9 a) (f':few9 b):cvF nX [.int 2,webD n rs,.int a,.int b]=some (.str (dueS n rs 2 a b)):=by
 refine nZ rfl λKE k1 _=>?_
 rw [pw]
 refine ml λK hK _=>?_
 refine ⟨_,_,rfl,hK _ ?_⟩
 refine ml λK hK _=>?_
 show wp _ [some (.val (.int 2)),some (.val (webD n rs)),some (.val (.int a)),some (.val (.int b)),some (.val .non),none] _
 have x:=wu W f f'
 unfold dueS at k1
 rw [if_neg (by decide)] at k1
 have mm:∀ r,(om [webD n rs,.int a,.int b]).map (λc=>(c,([some (.val (.int 2)),some (.val (webD n rs)),some (.val (.int a)),some (.val (.int b)),some (.val .non),none]:Gm)))=r->(ifX (tst (op2 (eqF false) (nm 0) (ret (.int 0)))) (fnX pj (consA (nm 1) (consA (nm 2) nilA))) (ifX (tst (op2 (eqF false) (nm 0) (ret (.int 1)))) (fnX pe (consA (nm 1) (consA (nm 2) (consA (nm 3) nilA)))) (fnX om (consA (nm 1) (consA (nm 2) (consA (nm 3) nilA)))))) [some (.val (.int 2)),some (.val (webD n rs)),some (.val (.int a)),some (.val (.int b)),some (.val .non),none]=r:=λr e=>by
  rw [nF (k:=false) rfl,if_neg Bool.false_ne_true,nF (k:=false) rfl,if_neg Bool.false_ne_true,mR rfl,e]
 cases h:isH n a&&isH n b with
 | true =>
  rw [h] at x k1
  cases hd:decide (b∈nbs rs a) with
  | true =>
   rw [hd] at x k1
   refine rb (mm _ (by rw [x];rfl)) ?_
   have e3:=Cp W ((W.nb a b).mp (of_decide_eq_true hd))
   simp [dep,e3]
   exact hK _ (qv (k1 _ ⟨_,rfl⟩))
  | false =>
   rw [hd] at x k1
   refine pU (c:=2) (mm _ (by rw [x];rfl)) rfl (hK _ ?_)
   exact qm Ao (k1 _ ⟨_,rfl⟩)
 | false =>
  rw [h] at x k1
  refine pU (c:=1) (mm _ (by rw [x];rfl)) rfl (hK _ ?_)
  exact qm rJ (k1 _ ⟨_,rfl⟩)
end
section
variable {n:Nat}{rs:List (Int×Int)}{rk:Int->Nat}{a b:Int}
noncomputable def bodyD:M Fl:=ifS (notT (tst (chn leI ltI (ret (.int 0)) (nm 4) (op2 ixF (nm 1) (ret (.int 0)))))) (retS (ret (.str "house"))) (ret .nx)
noncomputable abbrev gmD (w:Int) (n:Nat) (rs:List (Int×Int)) (a b:Int) (x:Option R):Gm:=[some (.val (.int w)),some (.val (webD n rs)),some (.val (.int a)),some (.val (.int b)),x]
theorem turnD {w x:Int}{y:Option R}{ds:List D}{K:Fl->Gm->Prop} (h1:isH n x=true->wp (DL.forM (tgN 4) bodyD ds) (gmD w n rs a b (some (.val (.int x)))) K) (h2:isH n x=false->K (.rt (.val (.str "house"))) (gmD w n rs a b (some (.val (.int x))))):wp (DL.forM (tgN 4) bodyD (.int x::ds)) (gmD w n rs a b y) K:=by
 have t:notT (tst (chn leI ltI (ret (.int 0)) (nm 4) (op2 ixF (nm 1) (ret (.int 0))))) (gmD w n rs a b (some (.val (.int x))))=some (!isH n x,gmD w n rs a b (some (.val (.int x)))):=by
  refine oM ?_
  unfold isH
  by_cases h0:0<=x<;>simp [webD,h0]
 unfold DL.forM
 have e1:tgN 4 (.int x) (gmD w n rs a b y)=some ((),gmD w n rs a b (some (.val (.int x)))):=rfl
 cases h:isH n x with
 | true =>
  have e2:bodyD (gmD w n rs a b (some (.val (.int x))))=some (Fl.nx,gmD w n rs a b (some (.val (.int x)))):=by
   unfold bodyD ifS bnd
   rw [t,h]
   rfl
  obtain ⟨r,ac,e3,k⟩:=h1 h
  exact ⟨r,ac,by unfold bnd;rw [e1];dsimp only;rw [e2];exact e3,k⟩
 | false =>
  have e2:bodyD (gmD w n rs a b (some (.val (.int x))))=some (Fl.rt (.val (.str "house")),gmD w n rs a b (some (.val (.int x)))):=by
   unfold bodyD ifS bnd
   rw [t,h]
   rfl
  exact ⟨_,_,by unfold bnd;rw [e1];dsimp only;rw [e2];rfl,h2 h⟩
theorem AK {w:Int}{x:Option R}{r:PySem.Str}{KE:Fl->Gm->Prop} (W:Web n rs rk) (e:(decide (w=2)&&!decide (b∈nbs rs a))=true/\r = "road"\/(decide (w=2)&&!decide (b∈nbs rs a))=false/\r = "told") (k:KE (.rt (.val (.str r))) (gmD w n rs a b x)) :
  wp (retS (ifV (andT (tst (op2 (eqF false) (nm 0) (ret (.int 2)))) (tst (op2 (inF true) (nm 3) (frz (fn1 (coF oW) (consA (nm 1) (consA (nm 2) nilA))))))) (ret (.str "road")) (ret (.str "told")))) (gmD w n rs a b x) KE:=by
 have e1:=y8 W a
 by_cases hw:w=2
 ·simp only [hw,decide_true,Bool.true_and] at e
  rw [hw] at k ⊢
  simp [dep,deq,e1,uu]
  rcases e with ⟨e,rfl⟩ | ⟨e,rfl⟩
  ·simp at e
   simp [e]
   exact k
  ·simp at e
   simp [e]
   exact k
 ·simp only [hw,decide_false,Bool.false_and] at e
  simp at e
  subst e
  simp [dep,deq,hw]
  exact k
theorem xK (W:Web n rs rk){w:Nat} (hw:w < 3):cvF pX [.int w,webD n rs,.int a,.int b]=some (.str (dueS n rs w a b)):=by
 refine nZ rfl λKE k1 _=>?_
 rw [rF]
 refine ml λK hK hR=>?_
 have it:(itS (sl3 slF (frz (lstA (consA (nm 2) (consA (nm 3) nilA)))) (ret none) (prt (op2 addF (ret (.int 1)) (fn1 intBF (consA (op2 gtI (nm 0) (ret (.int 0))) nilA)))))) (gmD w n rs a b none)=some (if w=0 then [.int a] else [.int a,.int b],gmD w n rs a b none):=by
  match w,hw with
  | 0,_=>rfl
  | 1,_=>rfl
  | 2,_=>rfl
 show wp (forS _ (tgN 4) bodyD) (gmD w n rs a b none) _
 have go:wp (DL.forM (tgN 4) bodyD (if w=0 then [.int a] else [.int a,.int b])) (gmD w n rs a b none) K:=by
  have nil:∀ x,(KE (.rt (.val (.str (if (w=2&&!decide (b∈nbs rs a)) then "road" else "told")))) (gmD w n rs a b x))->wp (DL.forM (tgN 4) bodyD []) (gmD w n rs a b x) K:=λx k=>⟨_,_,rfl,hK _ (AK W (by
   have c:decide ((w:Int)=2)=decide (w=2):=by congr 1;apply propext;omega
   rw [c]
   cases h:(decide (w=2)&&!decide (b∈nbs rs a))<;>simp) k)⟩
  unfold dueS at k1
  split
  ·rename_i h0
   rw [if_pos h0] at k1
   refine turnD (λh=>nil _ ?_) λh=>hR _ _ ?_
   ·rw [h] at k1
    rw [h0]
    exact k1 _ ⟨_,rfl⟩
   ·rw [h] at k1
    exact k1 _ ⟨_,rfl⟩
  ·rename_i h0
   rw [if_neg h0] at k1
   refine turnD (λh=>turnD (λh'=>nil _ ?_) λh'=>hR _ _ ?_) λh=>hR _ _ ?_
   ·rw [h,h'] at k1
    exact k1 _ ⟨_,rfl⟩
   ·rw [h,h'] at k1
    exact k1 _ ⟨_,rfl⟩
   ·rw [h] at k1
    exact k1 _ ⟨_,rfl⟩
 obtain ⟨r,ac,e,k⟩:=go
 exact ⟨r,ac,by unfold forS bnd;rw [it];exact e,k⟩
end
@[simp ↓] theorem DS {x:PySem.Str}{t:M (List D)}{Γ:Gm}{Q:D->Gm->Prop}:wp (mkE x t) Γ Q↔wp t Γ λds Γ1=>wp (lft (if ds.length<=5 then some (.exc x none) else none)) Γ1 Q:=by simp only [mkE,mL]
noncomputable abbrev someX (n:Int):List D:=[.exc "NoKin" none,.exc "NoHouse" none,.exc "NoRoad" none,.exc "Ring" none,.exc "NoHold" none,.exc "NoLetter" none,.exc "NoStep" none,.exc "NoText" none,.exc "NoRow" none,.exc "NoLog" (some n)]
noncomputable abbrev namesX:List D:=[.str "kin", .str "house", .str "road", .str "ring", .str "hold", .str "letter", .str "step", .str "text", .str "row", .str "log"]
theorem wq {ga gb:M D}{F:D->D->Option D}{x y z:D}{Γ Γ1 ai:Gm} (ha:ga Γ=some (x,Γ1)) (hb:gb Γ1=some (y,ai)) (hf:F x y=some z):op2 F ga gb Γ=some (z,ai):=by
 unfold op2 bnd
 rw [ha]
 dsimp only
 rw [hb]
 unfold lft
 dsimp only
 rw [hf]
theorem xV {g:M D}{d:D}{Γ Γ1:Gm} (h:g Γ=some (d,Γ1)):retS g Γ=some (.rt (.val d),Γ1):=by
 unfold retS bnd
 rw [h]
 rfl
theorem Cj {c:List D}{Q:R->List D->Prop} (hc:PotOk c) (k:∀ c',PotOk c'->Q (.val (.bl true)) c'):wpB p6 c [] Q:=by
 refine qi rfl λKE hE _=>?_
 rw [qV]
 refine ml ?_;rintro K hK -
 simp [isMut,R.mut]
 refine n5 hc (by omega) (by omega) λn c1 h0 h1 hc=>?_
 simp
 refine hK _ ?_
 have f:few9 n:=vx (by omega)
 have e:mkLF (.int n)=some (.exc "NoLog" (some n)):=by show (if few9 n then _ else _)=_;rw [if_pos f]
 refine ml ?_;rintro K hK -
 refine ⟨.nx,[some (.bor c1),some (.val (.int n)),some (.val (.lst [.exc "NoKin" none,.exc "NoHouse" none,.exc "NoRoad" none,.exc "Ring" none,.exc "NoHold" none,.exc "NoLetter" none,.exc "NoStep" none,.exc "NoText" none])),none],by kernel_rfl,hK _ ?_⟩
 refine ml ?_;rintro K hK -
 refine ⟨.nx,[some (.bor c1),some (.val (.int n)),some (.val (.lst (someX n))),none],?_,hK _ ?_⟩
 ·refine oM ?_
  simp [un1,e]
 refine ml ?_;rintro K hK -
 refine ⟨.nx,[some (.bor c1),some (.val (.int n)),some (.val (.lst (someX n))),some (.val (.lst namesX))],by kernel_rfl,hK _ ?_⟩
 refine ml ?_;rintro K hK -
 refine ⟨.nx,[some (.bor c1),some (.val (.int n)),some (.val (.lst (someX n))),some (.val (.lst namesX))],by kernel_rfl,hK _ ?_⟩
 have e5:(un1 numF (op2 ixF (nm 2) (un1 negI (ret (.int 1))))) [some (.bor c1),some (.val (.int n)),some (.val (.lst (someX n))),some (.val (.lst namesX))]=some (.int n,[some (.bor c1),some (.val (.int n)),some (.val (.lst (someX n))),some (.val (.lst namesX))]):=by kernel_rfl
 refine ⟨.rt (.val (.bl true)),[some (.bor c1),some (.val (.int n)),some (.val (.lst (someX n))),some (.val (.lst namesX))],?_,hE _ _ _ ⟨_,rfl⟩ (k _ hc)⟩
 refine xV (wq e5 (y:=.int n) rfl ?_)
 simp [eqF,dep,deq]
theorem AQ {n:Nat}{rs:List (Int×Int)}{rk:Int->Nat}{a b:Int} (W:Web n rs rk) (f:few9 a) (f':few9 b){w:Nat} (hw:w < 3):cvF nX [.int w,webD n rs,.int a,.int b]=some (.str (dueS n rs w a b)) :=
 match w,hw with
 | 0,_=>told0 W f
 | 1,_=>told1 W f f'
 | 2,_=>told2 W f f'
noncomputable def oneH (n:Nat) (aP:Int):List Int:=(range n).map (λ(k:Nat)=>(k:Int))++([-1,(n:Int),(n:Int)+1+aP,-2 - aP,-(n:Int)]:List Int)
theorem vQ {n:Nat}{aP x:Int} (hn:n<=8) (h0:0<=aP) (h1:aP < 10 ^ 20) (h:x∈oneH n aP):few9 x:=by
 refine vx ?_
 unfold oneH at h
 rcases mem_append.mp h with h | h
 ·obtain ⟨k,hk,rfl⟩:=mem_map.mp h
  have:=mem_range.mp hk
  omega
 ·simp only [mem_cons,not_mem_nil,or_false] at h
  rcases h with rfl | rfl | rfl | rfl | rfl<;>omega
theorem law_true (ns:List Int) (dU:ns.length<=63):∃ rs,n9 [.val (.lst (ns.map D.int))]=some (.val (.bl true),rs):=by
 have bS:wpF n9 [.val (.lst (ns.map D.int))] λr _=>r=.val (.bl true):=by
  refine nU rfl λKE hE _=>?_
  rw [sE]
  refine ml ?_;rintro K hK -
  obtain ⟨c,hc,hp⟩:=A1 ns
  simp [hc]
  refine hK _ ?_
  refine ml ?_;rintro K hK -
  simp [isMut,R.mut]
  refine Cj hp λc hp=>?_
  simp
  refine hK _ ?_
  refine ml ?_;rintro K hK hR
  simp
  refine nK (J:=λi Γ=>∃ c x2 x3 x4 x5 x6 x7 x8,PotOk c/\Γ=[some (.val (.lst (ns.map .int))),some (.own c),x2,x3,x4,x5,x6,x7,x8]) ⟨c,_,_,_,_,_,_,_,hp,rfl⟩ ?_ ?_
  ·rintro i d Γ - ⟨c,x2,x3,x4,x5,x6,x7,x8,hc,rfl⟩ KL bx - - -
   clear hK hR hE hp
   simp
   refine ml ?_;rintro K hK -
   simp [isMut,R.mut]
   refine BI hc λn rs rk c W hc=>?_
   simp
   refine hK _ ?_
   refine ml ?_;rintro K hK -
   simp [isMut,R.mut]
   refine n5 hc (by decide) (by decide) λaP c h0 h1 hc=>?_
   simp
   refine hK _ ?_
   have n8:=W.n8
   have hh:(frz (op2 catF (frz (fn1 rngI1 (consA (op2 ixF (nm 3) (ret (.int 0))) nilA))) (frz (lstA (consA (un1 negI (ret (.int 1))) (consA (op2 ixF (nm 3) (ret (.int 0))) (consA (op2 addF (op2 addF (op2 ixF (nm 3) (ret (.int 0))) (ret (.int 1))) (nm 4)) (consA (op2 subI (un1 negI (ret (.int 2))) (nm 4)) (consA (un1 negI (op2 ixF (nm 3) (ret (.int 0)))) nilA)))))))))
     [some (.val (.lst (ns.map .int))),some (.own c),some (.val d),some (.val (webD n rs)),some (.val (.int aP)),x5,x6,x7,x8]=some (.lst ((oneH n aP).map D.int),[some (.val (.lst (ns.map .int))),some (.own c),some (.val d),some (.val (webD n rs)),some (.val (.int aP)),x5,x6,x7,x8]):=by
    refine oM ?_
    simp [webD,un1,negI,oneH,rngD]
    omega
   refine ml ?_;rintro K hK -
   refine ⟨.nx,[some (.val (.lst (ns.map .int))),some (.own c),some (.val d),some (.val (webD n rs)),some (.val (.int aP)),some (.val (.lst ((oneH n aP).map D.int))),x6,x7,x8],?_,hK _ ?_⟩
   ·unfold setV bnd
    rw [hh]
    rfl
   clear hK hh
   simp
   refine nK (J:=λi Γ=>∃ x6 x7 x8,Γ=[some (.val (.lst (ns.map .int))),some (.own c),some (.val d),some (.val (webD n rs)),some (.val (.int aP)),some (.val (.lst ((oneH n aP).map D.int))),x6,x7,x8]) ⟨_,_,_,rfl⟩ ?_ ?_
   ·rintro i d1 Γ hd ⟨x6,x7,x8,rfl⟩ lZ jx - - -
    rw [getElem?_map,map_eq_some_iff] at hd
    obtain ⟨a,ha,rfl⟩:=hd
    have fa:=vQ n8 h0 h1 (mem_of_getElem? ha)
    simp
    refine nK (J:=λi Γ=>∃ x7 x8,Γ=[some (.val (.lst (ns.map .int))),some (.own c),some (.val d),some (.val (webD n rs)),some (.val (.int aP)),some (.val (.lst ((oneH n aP).map D.int))),some (.val (.int a)),x7,x8]) ⟨_,_,rfl⟩ ?_ ?_
    ·rintro i d2 Γ hd ⟨x7,x8,rfl⟩ l5 jy - - -
     rw [getElem?_map,map_eq_some_iff] at hd
     obtain ⟨b,hb,rfl⟩:=hd
     have fb:=vQ n8 h0 h1 (mem_of_getElem? hb)
     simp
     refine nK (J:=λi Γ=>∃ x8,Γ=[some (.val (.lst (ns.map .int))),some (.own c),some (.val d),some (.val (webD n rs)),some (.val (.int aP)),some (.val (.lst ((oneH n aP).map D.int))),some (.val (.int a)),some (.val (.int b)),x8]) ⟨_,rfl⟩ ?_ ?_
     ·rintro w d3 Γ hd ⟨x8,rfl⟩ l6 jz - - -
      obtain ⟨rfl,hw⟩:=qZ hd
      have t:=AQ W fa fb (w:=w) (by simpa using hw)
      have u:=xK (a:=a) (b:=b) W (w:=w) (by simpa using hw)
      simp [t,u,dep,vO]
      exact jz _ ⟨_,rfl⟩
     ·rintro Γ ⟨x8,rfl⟩
      exact jy _ ⟨_,_,rfl⟩
    ·rintro Γ ⟨x7,x8,rfl⟩
     exact jx _ ⟨_,_,_,rfl⟩
   ·rintro Γ ⟨x6,x7,x8,rfl⟩
    exact bx _ ⟨_,_,_,_,_,_,_,_,hc,rfl⟩
  ·rintro Γ ⟨c,x2,x3,x4,x5,x6,x7,x8,hc,rfl⟩
   refine hK _ ?_
   exact ⟨_,_,rfl,hE _ _ ⟨_,rfl,rfl⟩⟩
 obtain ⟨r,aK,e,rfl⟩:=bS
 exact ⟨aK,e⟩
end Own
namespace PySem.W.Fast
theorem tw12171800924609888557:True:=⟨⟩
theorem tw1400574333815244160:True:=⟨⟩
theorem tw4861544301185460634:True:=⟨⟩
theorem tw8816609712401066738:True:=⟨⟩
theorem tw13652603011762991327:True:=⟨⟩
theorem tw7251642043248275117:True:=⟨⟩
theorem tw3487810148092726924:True:=⟨⟩
theorem tw16472555194589425995:True:=⟨⟩
theorem tw6669444542456987688:True:=⟨⟩
theorem tw7302506835966720006:True:=⟨⟩
theorem tw15236452061035978508:True:=⟨⟩
theorem tw302106560716747345:True:=⟨⟩
theorem tw1797591447451095104:True:=⟨⟩
theorem tw3843954316240997875:True:=⟨⟩
theorem tw172779391167841142:True:=⟨⟩
theorem tw13269832356640753275:True:=⟨⟩
theorem tw5925356016173453888:True:=⟨⟩
theorem tw12771107679980303148:True:=⟨⟩
theorem tw8778658366093680957:True:=⟨⟩
theorem tw16511577792672342098:True:=⟨⟩
theorem tw2216432825898561464:True:=⟨⟩
theorem tw13537819637204654481:True:=⟨⟩
theorem tw12772345473924763622:True:=⟨⟩
theorem tw1958468588545116364:True:=⟨⟩
theorem tw2771125654734180737:True:=⟨⟩
theorem tw10016322473147951829:True:=⟨⟩
theorem tw255991829891628205:True:=⟨⟩
theorem tw3948783838017693733:True:=⟨⟩
theorem tw5968083013794932231:True:=⟨⟩
theorem tw4968330908006137919:True:=⟨⟩
theorem tw6344644853782960408:True:=⟨⟩
theorem tw7385379006529767181:True:=⟨⟩
theorem tw6252819118120340959:True:=⟨⟩
theorem tw5245291612906243180:True:=⟨⟩
theorem tw4832958256463225170:True:=⟨⟩
theorem tw8811873585577343833:True:=⟨⟩
theorem tw18142523652068269487:True:=⟨⟩
theorem tw5654078819189441326:True:=⟨⟩
theorem tw6618030028821810289:True:=⟨⟩
theorem tw3396318373920174412:True:=⟨⟩
theorem tw11944772206909102586:True:=⟨⟩
theorem tw444203378579880798:True:=⟨⟩
theorem tw17991821783371447598:True:=⟨⟩
theorem tw262306375170164034:True:=⟨⟩
theorem tw9450254205472239823:True:=⟨⟩
theorem tw14521846902104490263:True:=⟨⟩
theorem tw17248806737825218835:True:=⟨⟩
theorem tw8523852497998911678:True:=⟨⟩
theorem tw5979429483501568055:True:=⟨⟩
theorem tw7590749294214566861:True:=⟨⟩
theorem tw15996012376014622977:True:=⟨⟩
theorem tw1609381543943992788:True:=⟨⟩
theorem tw4890928749612713813:True:=⟨⟩
theorem tw14843978251541307084:True:=⟨⟩
theorem tw4412547948022008657:True:=⟨⟩
theorem tw45278062796535193:True:=⟨⟩
theorem tw2835721101845153403:True:=⟨⟩
theorem tw10851243733799312670:True:=⟨⟩
theorem tw1678005463505080014:True:=⟨⟩
theorem tw11545687424071983044:True:=⟨⟩
theorem tw13069183905869361633:True:=⟨⟩
theorem tw7310351262959741549:True:=⟨⟩
theorem tw17673627276650739999:True:=⟨⟩
theorem tw1719763250716523680:True:=⟨⟩
theorem tw14593021458144463450:True:=⟨⟩
theorem tw4982627968547668529:True:=⟨⟩
theorem tw9135478089418556355:True:=⟨⟩
theorem tw8041809236675829124:True:=⟨⟩
theorem tw6496034116446916802:True:=⟨⟩
theorem tw6185168960912231759:True:=⟨⟩
theorem tw157241981291984306:True:=⟨⟩
theorem tw11992779668082750392:True:=⟨⟩
theorem tw10992503466462036956:True:=⟨⟩
theorem tw16249623351640709358:True:=⟨⟩
theorem tw15828921628132410242:True:=⟨⟩
theorem tw9586754883037953845:True:=⟨⟩
theorem tw4279479930119602344:True:=⟨⟩
theorem tw9738989851643403436:True:=⟨⟩
theorem tw15450656070620578961:True:=⟨⟩
theorem tw3509428011917374232:True:=⟨⟩
theorem tw5906807294700552033:True:=⟨⟩
theorem tw11941626094340826652:True:=⟨⟩
theorem tw12315377924962366241:True:=⟨⟩
theorem tw994468444121045797:True:=⟨⟩
theorem tw2913161819876959340:True:=⟨⟩
theorem tw14989681748640452828:True:=⟨⟩
theorem tw8643114114797812008:True:=⟨⟩
theorem tw15510173272706395358:True:=⟨⟩
theorem tw16587314205628971449:True:=⟨⟩
theorem tw17276770773005202285:True:=⟨⟩
theorem tw4757211517818234832:True:=⟨⟩
theorem tw498480830526800892:True:=⟨⟩
theorem tw1399314992828694372:True:=⟨⟩
theorem tw9005651670587720770:True:=⟨⟩
theorem tw11017862207013167380:True:=⟨⟩
theorem tw5092155527527152511:True:=⟨⟩
theorem tw1799147376460255162:True:=⟨⟩
theorem tw12246527998806887591:True:=⟨⟩
theorem tw9911462451627601685:True:=⟨⟩
theorem tw1044408326400440975:True:=⟨⟩
theorem tw2885802099870486265:True:=⟨⟩
theorem tw11586580131764701354:True:=⟨⟩
theorem tw3293628880336425484:True:=⟨⟩
theorem tw6965891325564174371:True:=⟨⟩
theorem tw5857080718993501665:True:=⟨⟩
theorem tw6886962553507277898:True:=⟨⟩
theorem tw18135818693016516877:True:=⟨⟩
theorem tw14847805390623246733:True:=⟨⟩
theorem tw18014082165206894275:True:=⟨⟩
theorem tw10708979316168627629:True:=⟨⟩
theorem tw11844056157111142150:True:=⟨⟩
theorem tw9924813418525534702:True:=⟨⟩
theorem tw16438123499405587437:True:=⟨⟩
theorem tw9416275747378322191:True:=⟨⟩
theorem tw11558134624803740828:True:=⟨⟩
theorem tw6155505996936659346:True:=⟨⟩
theorem tw17946771665834184551:True:=⟨⟩
theorem tw11415683174996666867:True:=⟨⟩
theorem tw3475628362330094184:True:=⟨⟩
theorem tw3649348788227536711:True:=⟨⟩
theorem tw1090436780932632173:True:=⟨⟩
theorem tw14043907091271822670:True:=⟨⟩
theorem tw3973345389562274264:True:=⟨⟩
theorem tw14156909382008078085:True:=⟨⟩
theorem tw13110065673154556219:True:=⟨⟩
theorem tw1096963512686379466:True:=⟨⟩
theorem tw5284062203674240696:True:=⟨⟩
theorem tw14058184706736705064:True:=⟨⟩
theorem tw8162249502885081003:True:=⟨⟩
theorem tw4299514726538769606:True:=⟨⟩
theorem tw14379014792034453553:True:=⟨⟩
theorem tw12105707211666314552:True:=⟨⟩
theorem tw2222478644220571991:True:=⟨⟩
theorem tw10741744061433418433:True:=⟨⟩
theorem tw886120753269871917:True:=⟨⟩
theorem tw10899508230393143605:True:=⟨⟩
theorem tw14978148274921106221:True:=⟨⟩
theorem tw10971295722532583782:True:=⟨⟩
theorem tw12811041222933925195:True:=⟨⟩
theorem tw12050845048537652613:True:=⟨⟩
theorem tw11775829509116827314:True:=⟨⟩
theorem tw17048786691965228492:True:=⟨⟩
theorem tw2496278182132983500:True:=⟨⟩
theorem tw12661501840465137563:True:=⟨⟩
theorem tw17169420975828918324:True:=⟨⟩
theorem tw12377187581608517246:True:=⟨⟩
theorem tw16629899152984856062:True:=⟨⟩
theorem tw15191355511289089597:True:=⟨⟩
theorem tw14236326766141573743:True:=⟨⟩
theorem tw18019192882907189187:True:=⟨⟩
theorem tw11702404302960418724:True:=⟨⟩
theorem tw4165902838024603922:True:=⟨⟩
theorem tw6152007312141322964:True:=⟨⟩
theorem tw1051886213027040803:True:=⟨⟩
theorem tw7415146059433558567:True:=⟨⟩
theorem tw12883301198622826622:True:=⟨⟩
theorem tw3858880392409924242:True:=⟨⟩
theorem tw15515986995929668983:True:=⟨⟩
theorem tw5986992981140440373:True:=⟨⟩
theorem tw13287397281025009803:True:=⟨⟩
theorem tw9158151339659224138:True:=⟨⟩
theorem tw3216636973595410705:True:=⟨⟩
theorem tw9943413838992652403:True:=⟨⟩
theorem tw8289975021534634868:True:=⟨⟩
theorem tw8024828150269190685:True:=⟨⟩
theorem tw18210764443708168795:True:=⟨⟩
theorem tw1941851538307361845:True:=⟨⟩
theorem tw7206599312638229376:True:=⟨⟩
theorem tw2911542610914196789:True:=⟨⟩
theorem tw9329144848822840146:True:=⟨⟩
theorem tw5038849883847719248:True:=⟨⟩
theorem tw4807975256661345975:True:=⟨⟩
theorem tw1397075150561967527:True:=⟨⟩
theorem tw12352191672648592933:True:=⟨⟩
theorem tw11542951259377377075:True:=⟨⟩
theorem tw3689837079268019250:True:=⟨⟩
theorem tw26047729699123518:True:=⟨⟩
theorem tw14176721517742651127:True:=⟨⟩
theorem tw3546412111007831630:True:=⟨⟩
theorem tw8166930348549755562:True:=⟨⟩
theorem tw13112629819272501962:True:=⟨⟩
theorem tw5156894468562544164:True:=⟨⟩
theorem tw14869608841114827189:True:=⟨⟩
theorem tw4965192294166339444:True:=⟨⟩
theorem tw15947765789628955477:True:=⟨⟩
theorem tw2717419286719490624:True:=⟨⟩
theorem tw763034273802051209:True:=⟨⟩
theorem tw8340691376010365572:True:=⟨⟩
theorem tw5804611918959419473:True:=⟨⟩
theorem tw10433423204409582817:True:=⟨⟩
end PySem.W.Fast
open PySem PySem.W PyProof.Rows
set_option maxRecDepth 100000 in
set_option maxHeartbeats 0 in
theorem PySem.Challenge.cw_roofpost_k26_webs_refused_holds : PySem.Challenge.rw_roofpost_k26_webs_refused.Holds := by
 w_on;(refine holds_law (by decide +kernel) λlu=>?_);k_head;(case hw=>w_witness2)
 k_fill
 refine Own.walk (l:=PySem.Challenge.rw_roofpost_k26_webs_refused) Own.law_true rfl rfl (λw h l8=>PySem.W.kIn_of l8) ?F
 case F =>
  intro w mg fa h KX G dP
  refine' Own.all_mk dP (Own.dn KX G ?_ ?_ ?_ ?_) (Own.dn KX G ?_ ?_ ?_ ?_) (Own.dn KX G ?_ ?_ ?_ ?_) (Own.dn KX G ?_ ?_ ?_ ?_) (Own.dn KX G ?_ ?_ ?_ ?_) (Own.dn KX G ?_ ?_ ?_ ?_) (Own.dn KX G ?_ ?_ ?_ ?_) (Own.dn KX G ?_ ?_ ?_ ?_) (Own.dn KX G ?_ ?_ ?_ ?_) (Own.dn KX G ?_ ?_ ?_ ?_) (Own.dn KX G ?_ ?_ ?_ ?_) (Own.dn KX G ?_ ?_ ?_ ?_) (Own.dn KX G ?_ ?_ ?_ ?_) (Own.dn KX G ?_ ?_ ?_ ?_) (Own.dn KX G ?_ ?_ ?_ ?_) (Own.dn KX G ?_ ?_ ?_ ?_) (Own.dn KX G ?_ ?_ ?_ ?_) (Own.dn KX G ?_ ?_ ?_ ?_) (Own.dn KX G ?_ ?_ ?_ ?_) (mg_none_of KX G ?_) (mg_none_of KX G ?_) (mg_none_of KX G ?_) (mg_none_of KX G ?_) (mg_none_of KX G ?_) (mg_none_of KX G ?_) (mg_none_of KX G ?_) (mg_none_of KX G ?_) (mg_none_of KX G ?_) (mg_none_of KX G ?_) (mg_none_of KX G ?_) (mg_none_of KX G ?_) (mg_none_of KX G ?_) (DL.By KX G ?X1) (Own.fi ?_ ?_ ?_ ?_ ?_) (DL.xM ?X2)
  any_goals k_is
  all_goals kernel_rfl
