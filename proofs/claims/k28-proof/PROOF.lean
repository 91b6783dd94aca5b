import PyProof.Rows.All
import Wide.All
import OpenK.AllK
import Wide.FinOn
import Lean
import PyProof.EqAt
import PyProof.EqKinds
import PyProof.TupleCall
import PyProof.NeKinds
import PyProof.IsiSeqPairs
import PyProof.IsiNone
import KE.KSortTup
import KE.KRevSl
import PySem.Challenge.RW_roofpost_k28_tables_when_all_is_still
set_option Elab.async false
set_option linter.all false
set_option maxRecDepth 100000
namespace L2
open PySem PySem.Spec PyProof.Rows
abbrev Key:=Sum Int Str
def keyIs:Key->Value->Bool
 | .inl k,v=>Value.isInt k v
 | .inr x,v=>Value.isStrOf x v
def keyH (w:World):Key->Int
 | .inl k=>hashInt k
 | .inr x=>hashStr w x
theorem bp':∀ {k:Key}{v:Value},keyIs k v=true->(∃ i t,k=Sum.inl i/\v=Value.int i t)\/(∃ x t,k=Sum.inr x/\v=Value.str x t)
 | .inl i,v,h=>by
  obtain ⟨t,e⟩:=Value.isInt_shape (k:=i) (v:=v) h
  exact .inl ⟨i,t,rfl,e⟩
 | .inr x,v,h=>by
  obtain ⟨t,e⟩:=Value.isStrOf_shape (x:=x) (v:=v) h
  exact .inr ⟨x,t,rfl,e⟩
theorem sz' (a b:Int):decide ((Sum.inl a:Key)=Sum.inl b)=(a == b):=by
 by_cases e:a=b
 ·subst e;simp
 ·have h:¬ (Sum.inl a:Key)=Sum.inl b:=fun q=>e (Sum.inl.inj q)
  rw [decide_eq_false h]
  exact (beq_eq_false_iff_ne.mpr e).symm
theorem sA' (a b:Str):decide ((Sum.inr a:Key)=Sum.inr b)=decide (a=b):=by
 by_cases e:a=b
 ·subst e;simp
 ·have h:¬ (Sum.inr a:Key)=Sum.inr b:=fun q=>e (Sum.inr.inj q)
  rw [decide_eq_false h,decide_eq_false e]
theorem sB' (a:Int) (b:Str):decide ((Sum.inl a:Key)=Sum.inr b)=false:=decide_eq_false (fun q=>nomatch q)
theorem sC' (a:Str) (b:Int):decide ((Sum.inr a:Key)=Sum.inl b)=false:=decide_eq_false (fun q=>nomatch q)
def mixKind (prog:Program) (w:World):PySem.KeyKind prog w Key where
 is:=keyIs
 hash:=keyH w
 inj:=fun v a b ha hb=>by
  rcases bp' ha with ⟨i,t,rfl,rfl⟩ | ⟨x,t,rfl,rfl⟩
  ·rcases bp' hb with ⟨j,u,rfl,e⟩ | ⟨y,u,rfl,e⟩
   ·injection e with e1 _;rw [e1]
   ·exact nomatch e
  ·rcases bp' hb with ⟨j,u,rfl,e⟩ | ⟨y,u,rfl,e⟩
   ·exact nomatch e
   ·injection e with e1 _;rw [e1]
 byValue:=fun k v h=>by
  rcases bp' h with ⟨i,t,rfl,rfl⟩ | ⟨x,t,rfl,rfl⟩<;>rfl
 pyHash:=fun hv h=>by
  rcases bp' hv with ⟨i,t,rfl,rfl⟩ | ⟨x,t,rfl,rfl⟩
  ·exact wpAny_pyHash_int h
  ·exact wpAny_pyHash_str h
 eqBool:=fun hu hv h=>by
  rcases bp' hu with ⟨i,t,rfl,rfl⟩ | ⟨x,t,rfl,rfl⟩
  ·rcases bp' hv with ⟨j,u,rfl,rfl⟩ | ⟨y,u,rfl,rfl⟩
   ·rw [sz'] at h;exact wpAny_eqBool_int h
   ·rw [sB'] at h;exact SeqAt.EqAt.int_str i t y u _ _ _ _ h
  ·rcases bp' hv with ⟨j,u,rfl,rfl⟩ | ⟨y,u,rfl,rfl⟩
   ·rw [sC'] at h;exact SeqAt.EqAt.str_int x t j u _ _ _ _ h
   ·rw [sA'] at h;exact wpAny_eqBool_str h
 «strs»:=fun k x t v h=>by
  rcases bp' h with ⟨i,u,rfl,e⟩ | ⟨y,u,rfl,e⟩
  ·exact nomatch e
  ·injection e with e1 _
   subst e1
   cases v<;>rfl
end L2
namespace L2
open PySem PySem.Spec PyProof.Rows
inductive V where
 | non | bl (b:Bool) | int (i:Int) | str (x:Str) | byt (b:Array UInt8) | flt (b:UInt64) | ref (a:Addr) | ty (n:String)
 deriving DecidableEq
def RelV:V->Value->Prop
 | .non,u=>u=Value.none
 | .bl b,u=>u=Value.bool b
 | .int i,u=>∃ t,u=Value.int i t
 | .str x,u=>∃ t,u=Value.str x t
 | .byt b,u=>∃ t,u=Value.bytes b t
 | .flt b,u=>∃ t,u=Value.float b t
 | .ref a,u=>u=Value.ref a
 | .ty n,u=>u=Value.type n
abbrev Vals:List V->List Value->Prop:=Paired RelV
theorem Vals.length {xs:List V}{us:List Value} (r:Vals xs us):xs.length=us.length:=Paired.length r
theorem Vals.get:∀ {xs:List V}{us:List Value}{i:Nat}{x:V},Vals xs us->xs[i]?=some x->∃ u,us[i]?=some u/\RelV x u
 | _,_,_,_,.nil,e=>by simp at e
 | _,_,0,_,.cons r _,e=>by simp at e;subst e;exact ⟨_,rfl,r⟩
 | _,_,i+1,x,.cons _ t,e=>by
  obtain ⟨u,h1,h2⟩:=Vals.get (i:=i) (x:=x) t (by simpa using e)
  exact ⟨u,by simpa using h1,h2⟩
theorem Vals.set {x:V}{u:Value} (r:RelV x u):∀ {xs:List V}{us:List Value} (i:Nat),Vals xs us->Vals (xs.set i x) (us.set i u)
 | _,_,_,.nil=>.nil
 | _,_,0,.cons _ t=>.cons r t
 | _,_,i+1,.cons q t=>.cons q (Vals.set r i t)
theorem Vals.append:∀ {xs ys:List V}{us ws:List Value},Vals xs us->Vals ys ws->Vals (xs++ys) (us++ws)
 | _,_,_,_,.nil,s=>s
 | _,_,_,_,.cons r t,s=>.cons r (Vals.append t s)
theorem Vals.take:∀ {xs:List V}{us:List Value} (n:Nat),Vals xs us->Vals (xs.take n) (us.take n)
 | _,_,0,_=>.nil
 | _,_,_+1,.nil=>.nil
 | _,_,n+1,.cons r t=>.cons r (Vals.take n t)
theorem Vals.drop:∀ {xs:List V}{us:List Value} (n:Nat),Vals xs us->Vals (xs.drop n) (us.drop n)
 | _,_,0,r=>r
 | _,_,_+1,.nil=>.nil
 | _,_,n+1,.cons _ t=>Vals.drop n t
def RelO:Option V->Option Value->Prop
 | some v,some u=>RelV v u
 | none,none=>True
 | _,_=>False
def KV {κ:Type}:List (κ×V)->List (κ×Value)->Prop:=Paired fun (p:κ×V) (q:κ×Value)=>p.1=q.1/\RelV p.2 q.2
def kV:Key->V
 | .inl i=>.int i
 | .inr x=>.str x
inductive HO where
 | lst (xs:List V)
 | tup (xs:List V)
 | dK (kvs:List (Key×V)) | dT (kvs:List (List Key×V))
 | set (S:Int->Bool) (n:Nat)
 | ins (C dx:Addr) (fs:List (Str×V))
 | own (x:Addr)
 | xd (fs:List (Str×V))
 | met (f x:Addr)
 | rng (lo hi:Int)
 | frz (o:Obj) (u:HO)
 | tbl (ps:Array Value)
 | ext (φ:Heap->Prop)
abbrev Hp:=Addr->Option HO
def upd (H:Hp) (a:Addr) (o:HO):Hp:=fun b=>if b=a then some o else H b
theorem au' {H:Hp}{a:Addr}{o:HO}:upd H a o a=some o:=by unfold upd;rw [if_pos rfl]
theorem am' {H:Hp}{a b:Addr}{o:HO} (h:b≠a):upd H a o b=H b:=by unfold upd;rw [if_neg h]
theorem bq' {H:Hp}{a b:Addr}{o:HO} (h:H a=some o) (h':H b=none):a≠b:=by
 intro e;subst e;rw [h] at h';cases h'
section
variable (P:Program) (w:World)
def ObjOk (H:Hp) (h:Heap) (a:Addr):HO->Prop
 | .lst xs=>xs.length<=sizeLine/\∃ (its:List Value) (n:Nat),Vals xs its/\h.get? a=some { cls:=.type "list", data:=.seq its.toArray n }
 | .tup xs=>xs.length<=sizeLine/\∃ its:List Value,Vals xs its/\IsTup h a its.toArray
 | .dK kvs=>kvs.length<=sizeLine/\(a == sysModules)=false/\∃ vs,KV kvs vs/\h.DictOf (mixKind P w) a vs
 | .dT kvs=>kvs.length<=sizeLine/\(a == sysModules)=false/\∃ xs:List (List Key×Addr×Value),
   Paired (fun (p:List Key×V) (q:List Key×Addr×Value)=>p.1=q.1/\H q.2.1=some (.tup (p.1.map kV))/\RelV p.2 q.2.2) kvs xs ∧
   ∃ o es ep,h.get? a=some o/\o.ExactDict/\o.data=.dict es ep/\es.toList=xs.map (entryOfKey (tupleKind (mixKind P w)))/\(xs.map (·.1)).Nodup
 | .set S n=>h.SetOf (intKind P w) a S n
 | .ins C dx fs=>H dx=some (.own a)/\fs.length<=1000/\dx≠a/\h.get? a=some (PySem.W.instObj C dx) ∧
   ∃ mA,h.Ns1 dx mA/\(∀ f,RelO (fs.lookup f) (mA f))/\PySem.Within mA (fs.map (·.1))
 | .own _=>∃ o,h.get? a=some o
 | .xd fs=>∃ mA,h.Ns1 a mA/\∀ f,RelO (fs.lookup f) (mA f)
 | .rng lo hi=>∃ t u v,h.get? a=some { cls:=.type "range", data:=.fields #[.int lo t,.int hi u,.int 1 v] }
 | .frz o u=>h.get? a=some o/\ObjOk H h a u
 | .tbl ps=>h.get? a=some { cls:=.none,data:=.fields ps }
 | .met f x=>h.get? a=some (PySem.W.methodObj (.ref f) (.ref x))
 | .ext φ=>φ h/\(∃ o,h.get? a=some o)/\∀ h1 h2:Heap,φ h1->(∀ o,h1.get? a=some o->h2.get? a=some o)->φ h2
def HOk (H:Hp) (h:Heap):Prop:=∀ a o,H a=some o->ObjOk P w H h a o
end
section
variable {P:Program}{w:World}{H H':Hp}{h h':Heap}{a:Addr}{o:HO}
theorem ObjOk.lt (x:ObjOk P w H h a o):a < h.objs.size:=by
 cases o with
 | lst xs=>obtain ⟨_,_,_,_,e⟩:=x;exact Heap.lt_size e
 | tup xs=>obtain ⟨_,_,_,p⟩:=x;exact p.lt
 | dK kvs=>obtain ⟨_,_,_,_,o,_,_,e,_⟩:=x;exact Heap.lt_size e
 | dT kvs=>obtain ⟨_,_,_,_,o,_,_,e,_⟩:=x;exact Heap.lt_size e
 | set S n=>obtain ⟨o,_,_,_,e,_⟩:=x;exact Heap.lt_size e
 | ins C dx fs=>obtain ⟨_,_,_,e,_⟩:=x;exact Heap.lt_size e
 | own y=>obtain ⟨_,e⟩:=x;exact Heap.lt_size e
 | xd fs=>obtain ⟨_,⟨_,_,_,e,_⟩,_⟩:=x;exact Heap.lt_size e
 | rng lo hi=>obtain ⟨_,_,_,e⟩:=x;exact Heap.lt_size e
 | frz ob u=>obtain ⟨e,_⟩:=x;exact Heap.lt_size e
 | tbl ps=>exact Heap.lt_size (show h.get? a=some _ from x)
 | met f y=>exact Heap.lt_size (show h.get? a=some _ from x)
 | ext φ=>obtain ⟨_,⟨_,e⟩,_⟩:=x;exact Heap.lt_size e
theorem Paired.mapP {α β:Type}{F G:α->β->Prop}:∀ {l₁:List α}{l₂:List β},Paired F l₁ l₂->(∀ a b,F a b->G a b)->Paired G l₁ l₂
 | _,_,.nil,_=>.nil
 | _,_,.cons r t,f=>.cons (f _ _ r) (Paired.mapP t f)
theorem ObjOk.stay (x:ObjOk P w H h a o) (k:∀ b u,(b=a\/H b=some (.own a))->h.get? b=some u->h'.get? b=some u)
  (ho:∀ b,H b=some (.own a)->H' b=some (.own a)) (ht:∀ b xs,H b=some (.tup xs)->H' b=some (.tup xs)):ObjOk P w H' h' a o:=by
 induction o with
 | lst xs=>obtain ⟨z,its,n,r,e⟩:=x;exact ⟨z,its,n,r,k _ _ (.inl rfl) e⟩
 | tup xs=>obtain ⟨z,its,r,ob,e,c⟩:=x;exact ⟨z,its,r,ob,k _ _ (.inl rfl) e,c⟩
 | dK kvs=>obtain ⟨z,y,vs,r,ob,es,ep,e,c⟩:=x;exact ⟨z,y,vs,r,ob,es,ep,k _ _ (.inl rfl) e,c⟩
 | dT kvs =>
  obtain ⟨z,y,xs,r,ob,es,ep,e,c⟩:=x
  exact ⟨z,y,xs,Paired.mapP r fun p q z=>⟨z.1,ht _ _ z.2.1,z.2.2⟩,ob,es,ep,k _ _ (.inl rfl) e,c⟩
 | set S n=>obtain ⟨ob,es,ep,t,e,c⟩:=x;exact ⟨ob,es,ep,t,k _ _ (.inl rfl) e,c⟩
 | ins C dx fs =>
  obtain ⟨d,z,ne,e,mA,⟨od,es,ep,e2,c⟩,r⟩:=x
  exact ⟨ho _ d,z,ne,k _ _ (.inl rfl) e,mA,⟨od,es,ep,k _ _ (.inr d) e2,c⟩,r⟩
 | own y=>obtain ⟨ob,e⟩:=x;exact ⟨ob,k _ _ (.inl rfl) e⟩
 | xd fs=>obtain ⟨mA,⟨od,es,ep,e,c⟩,r⟩:=x;exact ⟨mA,⟨od,es,ep,k _ _ (.inl rfl) e,c⟩,r⟩
 | rng lo hi=>obtain ⟨t,u,v,e⟩:=x;exact ⟨t,u,v,k _ _ (.inl rfl) e⟩
 | frz ob u ih=>obtain ⟨e,q⟩:=x;exact ⟨k _ _ (.inl rfl) e,ih q⟩
 | tbl ps =>
  have e:h.get? a=some { cls:=.none,data:=.fields ps }:=x
  show h'.get? a=some { cls:=.none,data:=.fields ps }
  exact k a _ (.inl rfl) e
 | met f y =>
  have e:h.get? a=some (PySem.W.methodObj (.ref f) (.ref y)):=x
  show h'.get? a=some (PySem.W.methodObj (.ref f) (.ref y))
  exact k a _ (.inl rfl) e
 | ext φ=>obtain ⟨p,⟨o,e⟩,st⟩:=x;exact ⟨st _ _ p fun o q=>k _ _ (.inl rfl) q,⟨o,k _ _ (.inl rfl) e⟩,st⟩
theorem HOk.lt (x:HOk P w H h) (e:H a=some o):a < h.objs.size:=(x a o e).lt
theorem HOk.fresh (x:HOk P w H h) (e:h.objs.size<=a):H a=none:=by
 cases q:H a with
 | none=>rfl
 | some u=>exact absurd (Nat.lt_of_lt_of_le (x.lt q) e) (Nat.lt_irrefl _)
theorem HOk.kept (x:HOk P w H h) (k:∀ b u,h.get? b=some u->h'.get? b=some u):HOk P w H h':=fun a o e =>
 (x a o e).stay (fun b u _ q=>k b u q) (fun _ q=>q) fun _ _ q=>q
theorem HOk.laid (x:HOk P w H h) (k:∀ b u,h.get? b=some u->h'.get? b=some u) (hp:h.objs.size<=a) (new:ObjOk P w (upd H a o) h' a o):HOk P w (upd H a o) h':=fun b u e=>by
 have hn:=x.fresh hp
 by_cases hb:b=a
 ·subst hb;rw [au'] at e;cases e;exact new
 ·rw [am' hb] at e
  exact (x b u e).stay (fun c v _ q=>k c v q) (fun c q=>by rw [am' (bq' q hn)];exact q) fun c xs q=>by rw [am' (bq' q hn)];exact q
end
def Rd (H:Hp) (a:Addr) (u:HO):Prop:=H a=some u\/∃ o,H a=some (.frz o u)
theorem Rd.ok {P:Program}{w:World}{H:Hp}{h:Heap}{a:Addr}{u:HO} (r:Rd H a u) (x:HOk P w H h):ObjOk P w H h a u:=by
 rcases r with r | ⟨o,r⟩
 ·exact x a u r
 ·obtain ⟨_,q⟩:=x a _ r
  exact q
def Mut:Option HO->Prop
 | some (.lst _)=>True
 | some (.dK _)=>True
 | some (.dT _)=>True
 | some (.set _ _)=>True
 | some (.ins _ _ _)=>True
 | some (.ext _)=>True
 | _=>False
section
variable {P:Program}{w:World}{H:Hp}{h h':Heap}{x e:Addr}{o':HO}
theorem HOk.write (ok:HOk P w H h) (mu:Mut (H x)) (he:e=x\/H e=some (.own x)) (k:∀ b u,b≠e->h.get? b=some u->h'.get? b=some u) (heo:∃ u,h'.get? e=some u)
  (new:ObjOk P w (upd H x o') h' x o'):HOk P w (upd H x o') h':=fun b u q=>by
 have nown:∀ c y,H c=some (.own y)->c≠x:=fun c y r z=>by subst z;rw [r] at mu;exact mu
 have ntup:∀ c xs,H c=some (.tup xs)->c≠x:=fun c xs r z=>by subst z;rw [r] at mu;exact mu
 by_cases hb:b=x
 ·subst hb;rw [au'] at q;cases q;exact new
 ·rw [am' hb] at q
  by_cases hbe:b=e
  ·have q':H b=some (.own x):=by
    rcases he with z | z
    ·exact absurd (hbe.trans z) hb
    ·rw [hbe];exact z
   rw [q] at q';cases q'
   obtain ⟨v,hv⟩:=heo
   exact ⟨v,by rw [hbe];exact hv⟩
  ·refine (ok b u q).stay (fun c v hc r=>k c v ?_ r) (fun c r=>by rw [am' (nown c b r)];exact r) fun c xs r=>by rw [am' (ntup c xs r)];exact r
   rcases hc with rfl | hc
   ·exact hbe
   ·rintro rfl
    rcases he with z | z
    ·exact nown c b hc z
    ·rw [hc] at z;cases z;exact hb rfl
end
structure Un (fs ex:List Addr) (H H':Hp) (h h':Heap):Prop where
 keep:∀ b o,h.get? b=some o->H b=none->b∉fs->b∉ex->h'.get? b=some o
 slot:∀ b o,h.get? b=some o->H b=none->b∈fs->b∉ex->∃ sl,h'.get? b=some { o with slots:=sl }
 free:∀ b o,h.get? b=some o->H b=none->b∉ex->H' b=none
 there:∀ b o,h.get? b=some o->b∉ex->∃ o',h'.get? b=some o'
 tups:∀ b xs,H b=some (.tup xs)->H' b=some (.tup xs)
 frzs:∀ b o u,H b=some (.frz o u)->H' b=some (.frz o u)
 tbls:∀ b ps,H b=some (.tbl ps)->∃ more,H' b=some (.tbl (ps++more))
section
variable {fs fs' ex ex':List Addr}{H H1 H2:Hp}{h h1 h2 h':Heap}{a x e:Addr}{o:HO}
theorem Un.any (u:Un fs ex H H1 h h1){b:Addr}{ob:Obj} (q:h.get? b=some ob) (n:H b=none) (hx:b∉ex):∃ sl,h1.get? b=some { ob with slots:=sl }:=by
 by_cases hb:b∈fs
 ·exact u.slot b ob q n hb hx
 ·exact ⟨ob.slots,u.keep b ob q n hb hx⟩
theorem Un.kept (k:∀ b u,h.get? b=some u->h'.get? b=some u):Un fs ex H H h h' :=
 ⟨fun b ob q _ _ _=>k b ob q,fun b ob q _ _ _=>⟨ob.slots,k b ob q⟩,fun _ _ _ n _=>n,fun b ob q _=>⟨ob,k b ob q⟩,fun _ _ q=>q,fun _ _ _ q=>q,fun _ ps q=>⟨#[],by rw [q];simp⟩⟩
theorem Un.refl:Un fs ex H H h h:=Un.kept fun _ _ q=>q
theorem Un.laid (k:∀ b u,h.get? b=some u->h'.get? b=some u) (hp:h.objs.size<=a) (hn:H a=none):Un fs ex H (upd H a o) h h' where
 keep:=fun b u q _ _ _=>k b u q
 slot:=fun b u q _ _ _=>⟨u.slots,k b u q⟩
 free:=fun b u q n _=>by rw [am' (Nat.ne_of_lt (Nat.lt_of_lt_of_le (Heap.lt_size q) hp))];exact n
 there:=fun b u q _=>⟨u,k b u q⟩
 tups:=fun b xs q=>by rw [am' (bq' q hn)];exact q
 frzs:=fun b u xs q=>by rw [am' (bq' q hn)];exact q
 tbls:=fun b ps q=>⟨#[],by rw [am' (bq' q hn),q];simp⟩
theorem Un.write (mu:Mut (H x)) (he:e=x\/H e=some (.own x)) (k:∀ b u,b≠e->h.get? b=some u->h'.get? b=some u) (heo:∃ u,h'.get? e=some u):Un fs ex H (upd H x o) h h':=by
 have hx:∀ b,H b=none->b≠x:=fun b n z=>by subst z;rw [n] at mu;exact mu
 have hb:∀ b,H b=none->b≠e:=fun b n z=>by
  subst z
  rcases he with r | r
  ·exact hx b n r
  ·rw [n] at r;cases r
 have hm:∀ b u,H b=some u->¬ Mut (some u)->b≠x:=fun b u q nm z=>by subst z;rw [q] at mu;exact nm mu
 refine ⟨fun b u q n _ _=>k b u (hb b n) q,fun b u q n _ _=>⟨u.slots,k b u (hb b n) q⟩,fun b u q n _=>by rw [am' (hx b n)];exact n,fun b u q _=>?_,
  fun b xs q=>by rw [am' (hm b _ q fun z=>z)];exact q,fun b u xs q=>by rw [am' (hm b _ q fun z=>z)];exact q,fun b ps q=>⟨#[],by rw [am' (hm b _ q fun z=>z),q];simp⟩⟩
 by_cases hbe:b=e
 ·subst hbe;exact heo
 ·exact ⟨u,k b u hbe q⟩
end
def trk (h:Heap) (H:Hp):List Addr:=(List.range h.objs.size).filter fun a=>(H a).isSome
def hidT (h:Heap) (H:Hp):Heap:=PySem.W.hideAll h (trk h H)
theorem oR' (h:Heap) (H:Hp):(hidT h H).objs.size=h.objs.size:=PySem.W.hideAll_size _ _
theorem qm' {h:Heap}{H:Hp}{b:Addr}{o:Obj} (e:h.get? b=some o) (n:H b=none):(hidT h H).get? b=some o :=
 PySem.W.hideAll_get _ e fun hm=>by
  have q:(H b).isSome=true:=(List.mem_filter.mp hm).2
  rw [n] at q;simp at q
theorem rB' {h:Heap}{H:Hp}{b:Addr}{o:Obj} (e:(hidT h H).get? b=some o):h.get? b=some o/\H b=none:=by
 have e':h.get? b=some o:=PySem.W.of_hideAll (trk h H) e
 refine ⟨e',?_⟩
 cases q:H b with
 | none=>rfl
 | some x =>
  have hm:b∈trk h H:=List.mem_filter.mpr ⟨List.mem_range.mpr (Heap.lt_size e'),by simp [q]⟩
  have z:(hidT h H).get? b=none:=PySem.W.hideAll_none (trk h H) hm
  rw [z] at e;cases e
end L2
namespace L2
open PySem PySem.Spec PyProof.Rows
structure Mod (K:PySem.W.Frag) (mg:Str->Option Value) (base:Heap):Prop where
 kin:K.In base
 glob:base.Ns mainGlobals mg
 blt:∃ mb,base.Ns builtinsNs mb/\∀ x:Str,x ≠ "__name__"->mb x=bootBuiltins x
 nolimit:base.NoLimit
structure Cx where
 prog:Program
 w:World
 K:PySem.W.Frag
 mg:Str->Option Value
 base:Heap
 A:Around
 N:List Str
 s₀:Shared
 H₀:Hp
 env:Env
 outer:List Env
 stack:List Env
 ex:List Addr
 fn:Str->Bool
 calm:Bool
 pn:List (Addr×Obj)
 xe:Value->Shared->Prop
def frs (l:List Env):List Addr:=l.filterMap (·.frame)
abbrev Cx.fs (X:Cx):List Addr:=frs X.outer
def Vis (sc:Scope) (x:Str):Prop:=sc.names.lookup x=some .local\/sc.names.lookup x=some .cell\/sc.names.lookup x=some .free
def Loc (sc:Scope) (x:Str):Prop:=sc.names.lookup x=some .local\/sc.names.lookup x=some .cell
def Look (env:Env) (h:Heap) (m:Str->Option Value) (x:Str) (u:Value):Prop :=
 (env.kindOf x=some .local/\m x=some u)\/((env.kindOf x=some .cell\/env.kindOf x=some .free)/\∃ c,env.cells.lookup x=some c/\h.IsCell c (some u))
structure Cx.Ok (X:Cx):Prop where
 mod:Mod X.K X.mg X.base
 kind:X.env.scope.kind=.function
 glob:X.env.globals=mainGlobals
 blt:X.env.builtins=builtinsNs
 above:X.s₀.heap.objs.size<=X.env.locals
 inj:∀ x y c,X.env.cells.lookup x=some c->X.env.cells.lookup y=some c->x=y
 has:∀ x,(X.env.kindOf x=some .cell\/X.env.kindOf x=some .free)->∃ c,X.env.cells.lookup x=some c
 cab:∀ x c,X.fn x=true->X.env.cells.lookup x=some c->X.s₀.heap.objs.size<=c
 hd:X.calm=true->X.A.handled=none
 frames:X.A.frames=some X.stack
 stk:X.stack=X.outer\/(X.stack=X.env::X.outer/\X.env.frame=some X.env.locals)
 exf:∀ b∈X.ex,b≠X.env.locals/\∀ x c,X.env.cells.lookup x=some c->c≠b
 bs:∀ b o,X.base.get? b=some o->X.s₀.heap.get? b=some o/\X.H₀ b=none
 bsz:X.base.objs.size<=X.s₀.heap.objs.size
 noex:∀ b o,X.base.get? b=some o->b∉X.ex
 exfs:∀ b∈X.ex,b∉X.fs
 funs:X.s₀.heap.FunFrames X.base X.outer
 frf:∀ b∈X.fs,X.H₀ b=none
structure Inv (X:Cx) (pins:List (Addr×Obj)) (σ:List (Option V)) (H:Hp) (s:Shared):Prop where
 ok:X.Ok
 os:s.os=X.s₀.os
 bare:AllBare s.gens
 base:Un X.fs X.ex X.H₀ H X.s₀.heap s.heap
 loc:∃ m,s.heap.Ns X.env.locals m/\∀ (i:Nat) (x:Str) (v:V),X.N[i]?=some x->σ[i]?=some (some v)->Vis X.env.scope x->∃ u,RelV v u/\Look X.env s.heap m x u
 cell:∀ x c,X.env.cells.lookup x=some c->∃ v,s.heap.IsCell c v
 free:H X.env.locals=none
 freeC:∀ x c,X.env.cells.lookup x=some c->H c=none
 pin:∀ p∈X.pn++pins,s.heap.get? p.1=some p.2/\H p.1=none/\p.1≠X.env.locals/\p.1∉X.fs/\∀ v,p.2.data≠.cell v
 hok:HOk X.prog X.w H s.heap
 len:σ.length=X.N.length
section
variable {X:Cx}{pins:List (Addr×Obj)}{σ:List (Option V)}{H H':Hp}{s:Shared}{h':Heap}
theorem Cx.Ok.nofr (ok:X.Ok){b:Addr}{o:Obj} (e:X.base.get? b=some o):b∉X.fs:=fun hb=>by
 have:=(ok.funs.mem hb).1
 rw [e] at this;cases this
theorem Inv.bs (I:Inv X pins σ H s):∀ b o,X.base.get? b=some o->s.heap.get? b=some o/\H b=none:=fun b o e =>
 ⟨I.base.keep b o (I.ok.bs b o e).1 (I.ok.bs b o e).2 (I.ok.nofr e) (I.ok.noex b o e),I.base.free b o (I.ok.bs b o e).1 (I.ok.bs b o e).2 (I.ok.noex b o e)⟩
theorem Inv.bk (I:Inv X pins σ H s):∀ b o,X.base.get? b=some o->s.heap.get? b=some o:=fun b o e=>(I.bs b o e).1
theorem Inv.mod (I:Inv X pins σ H s):Mod X.K X.mg X.base:=I.ok.mod
theorem Inv.kIn (I:Inv X pins σ H s):X.K.In s.heap:=I.ok.mod.kin.keeps I.bk
theorem Inv.lt (I:Inv X pins σ H s):X.env.locals < s.heap.objs.size:=let ⟨_,hn,_⟩:=I.loc;hn.lt
theorem Inv.sz (I:Inv X pins σ H s):X.s₀.heap.objs.size<=s.heap.objs.size:=Nat.le_trans I.ok.above (Nat.le_of_lt I.lt)
theorem Inv.nofs (I:Inv X pins σ H s){a:Addr} (h:s.heap.objs.size<=a):a∉X.fs:=fun hb=>by
 obtain ⟨_,o,ho,_⟩:=I.ok.funs.mem hb
 exact absurd (Nat.lt_of_lt_of_le (Heap.lt_size ho) (Nat.le_trans I.sz h)) (Nat.lt_irrefl _)
theorem Inv.cne (I:Inv X pins σ H s):∀ x c,X.env.cells.lookup x=some c->c≠X.env.locals:=fun x c e z=>by
 obtain ⟨v,o,ho,hd⟩:=I.cell x c e
 obtain ⟨m,⟨o',es,ep,ho',hd',_⟩,_⟩:=I.loc
 rw [z,ho'] at ho;cases ho;rw [hd'] at hd;cases hd
theorem Inv.funs (I:Inv X pins σ H s):s.heap.FunFrames X.base X.outer:=by
 have all:∀ (l:List Env),(∀ b∈frs l,b∈X.fs)->X.s₀.heap.FunFrames X.base l->s.heap.FunFrames X.base l:=by
  intro l
  induction l with
  | nil=>intro _ _;trivial
  | cons env r ih =>
   intro hs hl
   obtain ⟨hk,⟨L,o,hf,hn,ho,hd⟩,hr⟩:=hl
   have hL:L∈X.fs:=hs L (by unfold frs;rw [List.filterMap_cons,hf];exact List.mem_cons_self)
   obtain ⟨sl,e⟩:=I.base.slot L o ho (I.ok.frf L hL) hL fun z=>I.ok.exfs L z hL
   exact ⟨hk,⟨L,_,hf,hn,e,hd⟩,ih (fun b hb=>hs b (by unfold frs;rw [List.filterMap_cons,hf];exact List.mem_cons_of_mem _ hb)) hr⟩
 exact all X.outer (fun _ hb=>hb) I.ok.funs
theorem Inv.stack (I:Inv X pins σ H s):s.heap.FunFrames X.base X.stack:=by
 rcases I.ok.stk with e | ⟨e,hf⟩
 ·rw [e];exact I.funs
 ·rw [e]
  obtain ⟨m,hn,_⟩:=I.loc
  refine .cons (by rw [I.ok.kind];decide) hf hn ?_ I.funs
  exact Heap.get?_none_of_le (Nat.le_trans I.ok.bsz I.ok.above)
theorem Inv.stkSub (I:Inv X pins σ H s):∀ b∈frs X.stack,b∈X.env.locals::X.fs:=fun b hb=>by
 rcases I.ok.stk with e | ⟨e,hf⟩
 ·rw [e] at hb;exact List.mem_cons_of_mem _ hb
 ·rw [e] at hb
  unfold frs at hb
  rw [List.filterMap_cons,hf] at hb
  exact hb
theorem Inv.stkFree (I:Inv X pins σ H s):∀ b∈frs X.stack,H b=none:=fun b hb=>by
 rcases List.mem_cons.mp (I.stkSub b hb) with e | hb
 ·rw [e];exact I.free
 ·obtain ⟨_,o,ho,_⟩:=I.ok.funs.mem hb
  exact I.base.free b o ho (I.ok.frf b hb) fun z=>I.ok.exfs b z hb
theorem Inv.step {g':Array GenState}{t':Nat}{d':Drawn}{ch:List Addr} (I:Inv X pins σ H s)
  (hch:∀ b∈ch,(b∈X.ex\/X.s₀.heap.objs.size<=b)/\b≠X.env.locals/\(∀ x c,X.env.cells.lookup x=some c->c≠b)/\∀ p∈X.pn++pins,p.1≠b)
  (keep:∀ b o,b≠X.env.locals->b∉X.fs->b∉ch->s.heap.get? b=some o->H b=none->h'.get? b=some o)
  (slot:∀ b o,b≠X.env.locals->b∈X.fs->b∉ch->s.heap.get? b=some o->H b=none->∃ sl,h'.get? b=some { o with slots:=sl }) (free:∀ b o,b∉ch->s.heap.get? b=some o->H b=none->H' b=none)
  (there:∀ b o,b∉ch->s.heap.get? b=some o->∃ o',h'.get? b=some o')
  (tups:∀ b xs,H b=some (.tup xs)->H' b=some (.tup xs)) (frzs:∀ b o u,H b=some (.frz o u)->H' b=some (.frz o u)) (tbls:∀ b ps,H b=some (.tbl ps)->∃ more,H' b=some (.tbl (ps++more)))
  (ns:∀ m,s.heap.Ns X.env.locals m->h'.Ns X.env.locals m) (hok:HOk X.prog X.w H' h') (hg:AllBare g') :
  Inv X pins σ H' { s with heap:=h',gens:=g',drawn:=d',toks:=t' }:=by
 have neL:∀ b o,X.s₀.heap.get? b=some o->b≠X.env.locals:=fun b o e=>Nat.ne_of_lt (Nat.lt_of_lt_of_le (Heap.lt_size e) I.ok.above)
 have neC:∀ b o,X.s₀.heap.get? b=some o->b∉X.ex->b∉ch:=fun b o e hx hb=>by
  rcases (hch b hb).1 with z | z
  ·exact hx z
  ·exact absurd (Nat.lt_of_lt_of_le (Heap.lt_size e) z) (Nat.lt_irrefl _)
 have cellK:∀ x c,X.env.cells.lookup x=some c->∀ v,s.heap.IsCell c v->h'.IsCell c v:=fun x c e v ⟨o,ho,hd⟩=>by
  have nch:c∉ch:=fun z=>(hch c z).2.2.1 x c e rfl
  by_cases hc:c∈X.fs
  ·obtain ⟨sl,q⟩:=slot c o (I.cne x c e) hc nch ho (I.freeC x c e)
   exact ⟨_,q,hd⟩
  ·exact ⟨o,keep c o (I.cne x c e) hc nch ho (I.freeC x c e),hd⟩
 refine ⟨I.ok,I.os,hg,⟨fun b o e n hb hx=>?_,fun b o e n hb hx=>?_,fun b o e n hx=>?_,fun b o e hx=>?_,fun b xs e=>tups b xs (I.base.tups b xs e),fun b o xs e=>frzs b o xs (I.base.frzs b o xs e),fun b ps e=>?_⟩,?_,fun x c e=>?_,?_,fun x c e=>?_,fun p hp=>?_,hok,I.len⟩
 ·exact keep b o (neL b o e) hb (neC b o e hx) (I.base.keep b o e n hb hx) (I.base.free b o e n hx)
 ·obtain ⟨sl,e1⟩:=I.base.slot b o e n hb hx
  obtain ⟨sl',e2⟩:=slot b _ (neL b o e) hb (neC b o e hx) e1 (I.base.free b o e n hx)
  exact ⟨sl',e2⟩
 ·obtain ⟨o',e1⟩:=I.base.there b o e hx
  exact free b o' (neC b o e hx) e1 (I.base.free b o e n hx)
 ·obtain ⟨o',e1⟩:=I.base.there b o e hx
  exact there b o' (neC b o e hx) e1
 ·obtain ⟨m1,e1⟩:=I.base.tbls b ps e
  obtain ⟨m2,e2⟩:=tbls b _ e1
  exact ⟨m1++m2,by rw [e2,Array.append_assoc]⟩
 ·obtain ⟨m,hn,hl⟩:=I.loc
  refine ⟨m,ns m hn,fun i x v e1 e2 e3=>?_⟩
  obtain ⟨u,r,l⟩:=hl i x v e1 e2 e3
  refine ⟨u,r,?_⟩
  rcases l with l | ⟨k,c,e,z⟩
  ·exact .inl l
  ·exact .inr ⟨k,c,e,cellK x c e _ z⟩
 ·obtain ⟨v,z⟩:=I.cell x c e
  exact ⟨v,cellK x c e v z⟩
 ·obtain ⟨m,⟨o,_,_,ho,_⟩,_⟩:=I.loc
  exact free _ o (fun z=>(hch _ z).2.1 rfl) ho I.free
 ·obtain ⟨v,o,ho,hd⟩:=I.cell x c e
  exact free c o (fun z=>(hch c z).2.2.1 x c e rfl) ho (I.freeC x c e)
 ·obtain ⟨e,n,ne,nf,d⟩:=I.pin p hp
  have nch:p.1∉ch:=fun z=>(hch p.1 z).2.2.2 p hp rfl
  exact ⟨keep p.1 p.2 ne nf nch e n,free p.1 p.2 nch e n,ne,nf,d⟩
theorem Inv.un {t':Nat} (I:Inv X pins σ H s) (u:Un X.fs [] H H' s.heap h') (hok:HOk X.prog X.w H' h'):Inv X pins σ H' { s with heap:=h',toks:=t' }:=by
 obtain ⟨m,⟨o,es,ep,ho,r⟩,_⟩:=id I.loc
 obtain ⟨sl,hL⟩:=u.any ho I.free (by simp)
 exact I.step (g':=s.gens) (d':=s.drawn) (ch:=[]) (fun _ z=>nomatch z) (fun b o _ hb _ e n=>u.keep b o e n hb (by simp)) (fun b o _ hb _ e n=>u.slot b o e n hb (by simp)) (fun b o _ e n=>u.free b o e n (by simp)) (fun b o _ e=>u.there b o e (by simp)) u.tups u.frzs u.tbls (fun m' hm=>by
  obtain ⟨o',es',ep',ho',r'⟩:=hm
  rw [ho] at ho';cases ho'
  exact ⟨_,es',ep',hL,r'⟩) hok I.bare
theorem Inv.call {g':Array GenState}{t':Nat}{d':Drawn}{ch:List Addr} (I:Inv X pins σ H s) (u:Un (frs X.stack) ch H H' s.heap h') (hok:HOk X.prog X.w H' h') (hg:AllBare g')
  (hch:∀ b∈ch,(b∈X.ex\/X.s₀.heap.objs.size<=b)/\b≠X.env.locals/\(∀ x c,X.env.cells.lookup x=some c->c≠b)/\∀ p∈X.pn++pins,p.1≠b) :
  Inv X pins σ H' { s with heap:=h',gens:=g',drawn:=d',toks:=t' }:=by
 obtain ⟨m,⟨o,es,ep,ho,r⟩,_⟩:=id I.loc
 obtain ⟨sl,hL⟩:=u.any ho I.free fun z=>(hch _ z).2.1 rfl
 exact I.step (ch:=ch) hch (fun b o hL hb hc e n=>u.keep b o e n (fun z=>(List.mem_cons.mp (I.stkSub b z)).elim hL hb) hc) (fun b o _ _ hc e n=>u.any e n hc) (fun b o hc e n=>u.free b o e n hc) (fun b o hc e=>u.there b o e hc) u.tups u.frzs u.tbls (fun m' hm=>by
  obtain ⟨o',es',ep',ho',r'⟩:=hm
  rw [ho] at ho';cases ho'
  exact ⟨_,es',ep',hL,r'⟩) hok hg
theorem Inv.turned {t':Nat}{it:Addr} (I:Inv X pins σ H s) (k:∀ b o,b≠it->s.heap.get? b=some o->h'.get? b=some o) (hn:H it=none) (hL:it≠X.env.locals)
  (h1:it∈X.ex\/X.s₀.heap.objs.size<=it) (h2:∀ x c,X.env.cells.lookup x=some c->c≠it) (h3:∀ p∈X.pn++pins,p.1≠it):Inv X pins σ H { s with heap:=h',toks:=t' }:=by
 have nit:∀ b u,H b=some u->b≠it:=fun b u e z=>by rw [z,hn] at e;cases e
 refine I.step (g':=s.gens) (d':=s.drawn) (ch:=[it]) (fun b hb=>?_) (fun b o _ _ hc e _=>k b o (fun z=>hc (by simp [z])) e) (fun b o _ _ hc e _=>⟨o.slots,k b o (fun z=>hc (by simp [z])) e⟩) (fun _ _ _ _ n=>n)
  (fun b o hc e=>⟨o,k b o (fun z=>hc (by simp [z])) e⟩) (fun _ _ e=>e) (fun _ _ _ e=>e) (fun b ps e=>⟨#[],by rw [e];simp⟩) (fun m hm=>?_) (fun b u e=>?_) I.bare
 ·have e:b=it:=by simpa using hb
  subst e
  exact ⟨h1,hL,h2,h3⟩
 ·obtain ⟨o,es,ep,ho,r⟩:=hm
  exact ⟨o,es,ep,k _ o (Ne.symm hL) ho,r⟩
 ·refine (I.hok b u e).stay (fun c v hc q=>k c v ?_ q) (fun _ q=>q) fun _ _ q=>q
  rcases hc with z | z
  ·rw [z];exact nit b u e
  ·exact nit c _ z
theorem Inv.tok (I:Inv X pins σ H s) (t:Nat):Inv X pins σ H { s with toks:=t }:=I.un (h':=s.heap) (t':=t) Un.refl I.hok
theorem Inv.kept {t':Nat} (I:Inv X pins σ H s) (k:∀ b u,s.heap.get? b=some u->h'.get? b=some u):Inv X pins σ H { s with heap:=h',toks:=t' }:=I.un (Un.kept k) (I.hok.kept k)
theorem Inv.laid {a:Addr}{o:HO}{t':Nat} (I:Inv X pins σ H s) (k:∀ b u,s.heap.get? b=some u->h'.get? b=some u) (hp:s.heap.objs.size<=a) (new:ObjOk X.prog X.w (upd H a o) h' a o) :
  Inv X pins σ (upd H a o) { s with heap:=h',toks:=t' }:=I.un (Un.laid k hp (I.hok.fresh hp)) (I.hok.laid k hp new)
theorem Inv.write {x e:Addr}{o:HO}{t':Nat} (I:Inv X pins σ H s) (mu:Mut (H x)) (he:e=x\/H e=some (.own x)) (k:∀ b u,b≠e->s.heap.get? b=some u->h'.get? b=some u) (heo:∃ u,h'.get? e=some u)
  (new:ObjOk X.prog X.w (upd H x o) h' x o):Inv X pins σ (upd H x o) { s with heap:=h',toks:=t' }:=I.un (Un.write mu he k heo) (I.hok.write mu he k heo new)
theorem Inv.pins_of {pins':List (Addr×Obj)} (I:Inv X pins σ H s) (h:∀ p∈pins',s.heap.get? p.1=some p.2/\H p.1=none/\p.1≠X.env.locals/\p.1∉X.fs/\∀ v,p.2.data≠.cell v):Inv X pins' σ H s :=
 ⟨I.ok,I.os,I.bare,I.base,I.loc,I.cell,I.free,I.freeC,fun p hp=>(List.mem_append.mp hp).elim (fun z=>I.pin p (List.mem_append_left _ z)) (h p),I.hok,I.len⟩
theorem k0' {N:List Str} (hN:N.Nodup){i j:Nat}{x:Str} (a:N[i]?=some x) (b:N[j]?=some x):i=j:=by
 obtain ⟨h1,e1⟩:=List.getElem?_eq_some_iff.mp a
 obtain ⟨h2,e2⟩:=List.getElem?_eq_some_iff.mp b
 exact (List.getElem_inj hN).mp (e1.trans e2.symm)
theorem jR' {M:Model}{A:Around}{E:Value->Shared->Prop}{i:Nat}{x:Str}{v:V}{u:Value}{Q:Unit->Shared->Prop} (I:Inv X pins σ H s) (hN:X.N.Nodup) (hi:X.N[i]?=some x) (hx:Loc X.env.scope x) (r:RelV v u)
  (h:∀ s',Inv X pins (σ.set i (some v)) H s'->(∃ a,Heap.SameBut a s.heap s'.heap/\(a=X.env.locals\/X.env.cells.lookup x=some a))->Q () s') (hf:X.fn x=true\/X.env.scope.names.lookup x=some .local:=by first | exact .inl rfl | exact .inr rfl | assumption):wpAny M A (storeName X.env x u) Q E s:=by
 obtain ⟨m,hn,hl⟩:=id I.loc
 have hcls:(X.env.scope.kind == .class||(X.env.scope.kind == .module&&X.env.locals != X.env.globals))=false:=by rw [I.ok.kind];rfl
 have hiσ:i < σ.length:=by rw [I.len];exact (List.getElem?_eq_some_iff.mp hi).1
 have cne:=I.cne
 have tracked:∀ {a:Addr}{h':Heap},(∃ o,s.heap.get? a=some o/\H a=none)->Heap.SameBut a s.heap h'->HOk X.prog X.w H h':=fun {a h'} ha hs b ob e=>by
  obtain ⟨_,_,hfree⟩:=ha
  refine (I.hok b ob e).stay (fun c w' hc q=>(hs.2 c ?_).trans q) (fun _ q=>q) fun _ _ q=>q
  rintro rfl
  rcases hc with rfl | hc
  ·rw [hfree] at e;cases e
  ·rw [hfree] at hc;cases hc
 rcases hx with hk | hk
 ·refine wpAny_storeName_local hk hn (fun h' hn' hs=>?_) hcls
  obtain ⟨oL,_,_,hoL,_⟩:=id hn
  refine h _ ⟨I.ok,I.os,I.bare,⟨fun b o e n hb hx=>?_,fun b o e n hb hx=>?_,I.base.free,fun b o e hx=>?_,I.base.tups,I.base.frzs,I.base.tbls⟩,⟨_,hn',fun j y v' e1 e2 e3=>?_⟩,fun y c e=>?_,I.free,I.freeC,fun p hp=>?_,tracked ⟨oL,hoL,I.free⟩ hs,by simpa using I.len⟩ ⟨_,hs,.inl rfl⟩
  ·exact (hs.2 b (Nat.ne_of_lt (Nat.lt_of_lt_of_le (Heap.lt_size e) I.ok.above))).trans (I.base.keep b o e n hb hx)
  ·obtain ⟨sl,e1⟩:=I.base.slot b o e n hb hx
   exact ⟨sl,(hs.2 b (Nat.ne_of_lt (Nat.lt_of_lt_of_le (Heap.lt_size e) I.ok.above))).trans e1⟩
  ·obtain ⟨o',e1⟩:=I.base.there b o e hx
   exact ⟨o',(hs.2 b (Nat.ne_of_lt (Nat.lt_of_lt_of_le (Heap.lt_size e) I.ok.above))).trans e1⟩
  ·by_cases hj:j=i
   ·subst hj
    rw [hi] at e1;cases e1
    rw [List.getElem?_set_self hiσ] at e2
    cases e2
    exact ⟨u,r,.inl ⟨hk,by simp⟩⟩
   ·rw [List.getElem?_set_ne (Ne.symm hj)] at e2
    obtain ⟨u',r',q⟩:=hl j y v' e1 e2 e3
    refine ⟨u',r',?_⟩
    rcases q with ⟨k,e⟩ | ⟨k,c,e,z⟩
    ·refine .inl ⟨k,?_⟩
     have:y≠x:=fun e=>hj (k0' hN e1 (e▸hi))
     simp [this,e]
    ·exact .inr ⟨k,c,e,z.sameBut hs (cne y c e)⟩
  ·obtain ⟨w',z⟩:=I.cell y c e
   exact ⟨w',z.sameBut hs (cne y c e)⟩
  ·obtain ⟨e,n,ne,nf,d⟩:=I.pin p hp
   exact ⟨(hs.2 p.1 ne).trans e,n,ne,nf,d⟩
 ·have hfn:X.fn x=true:=by
   rcases hf with z | z
   ·exact z
   ·rw [z] at hk;cases hk
  obtain ⟨c,hc⟩:=I.ok.has x (.inl hk)
  obtain ⟨w',z⟩:=I.cell x c hc
  refine wpAny_storeName_cell I.ok.kind hk hc z (fun h' hc' hs=>?_)
  obtain ⟨oc,hoc,hocd⟩:=id z
  refine h { s with heap:=h' } ⟨I.ok,I.os,I.bare,⟨fun b o e n hb hx=>?_,fun b o e n hb hx=>?_,I.base.free,fun b o e hx=>?_,I.base.tups,I.base.frzs,I.base.tbls⟩,⟨m,hn.sameBut hs (Ne.symm (cne x c hc)),fun j y v' e1 e2 e3=>?_⟩,fun y c' e=>?_,I.free,I.freeC,fun p hp=>?_,tracked ⟨oc,hoc,I.freeC x c hc⟩ hs,by simpa using I.len⟩ ⟨c,hs,.inr hc⟩
  ·exact (hs.2 b (Nat.ne_of_lt (Nat.lt_of_lt_of_le (Heap.lt_size e) (I.ok.cab x c hfn hc)))).trans (I.base.keep b o e n hb hx)
  ·obtain ⟨sl,e1⟩:=I.base.slot b o e n hb hx
   exact ⟨sl,(hs.2 b (Nat.ne_of_lt (Nat.lt_of_lt_of_le (Heap.lt_size e) (I.ok.cab x c hfn hc)))).trans e1⟩
  ·obtain ⟨o',e1⟩:=I.base.there b o e hx
   exact ⟨o',(hs.2 b (Nat.ne_of_lt (Nat.lt_of_lt_of_le (Heap.lt_size e) (I.ok.cab x c hfn hc)))).trans e1⟩
  ·by_cases hj:j=i
   ·subst hj
    rw [hi] at e1;cases e1
    rw [List.getElem?_set_self hiσ] at e2
    cases e2
    exact ⟨u,r,.inr ⟨.inl hk,c,hc,hc'⟩⟩
   ·rw [List.getElem?_set_ne (Ne.symm hj)] at e2
    obtain ⟨u',r',q⟩:=hl j y v' e1 e2 e3
    refine ⟨u',r',?_⟩
    rcases q with q | ⟨k,c',e,z'⟩
    ·exact .inl q
    ·refine .inr ⟨k,c',e,z'.sameBut hs ?_⟩
     rintro rfl
     exact hj (k0' hN e1 (I.ok.inj _ _ _ e hc▸hi))
  ·by_cases hcc:c'=c
   ·subst hcc;exact ⟨_,hc'⟩
   ·obtain ⟨w2,z2⟩:=I.cell y c' e
    exact ⟨w2,z2.sameBut hs hcc⟩
  ·obtain ⟨e,n,ne,nf,d⟩:=I.pin p hp
   refine ⟨(hs.2 p.1 ?_).trans e,n,ne,nf,d⟩
   intro q
   rw [q,hoc] at e
   have q':oc=p.2:=Option.some.inj e
   exact d w' (by rw [← q'];exact hocd)
theorem k1' {M:Model}{A:Around}{E:Value->Shared->Prop}{i:Nat}{x:Str}{v:V}{u:Value}{Q:Unit->Shared->Prop} (I:Inv X pins σ H s) (hN:X.N.Nodup) (hi:X.N[i]?=some x) (hx:Loc X.env.scope x) (r:RelV v u)
  (h:∀ s',Inv X pins (σ.set i (some v)) H s'->Q () s') (hf:X.fn x=true\/X.env.scope.names.lookup x=some .local:=by first | exact .inl rfl | exact .inr rfl | assumption):wpAny M A (storeName X.env x u) Q E s :=
 jR' I hN hi hx r (fun s' I' _=>h s' I') hf
theorem Inv.call' {s':Shared}{ch:List Addr} (I:Inv X pins σ H s) (ho:s'.os=s.os) (u:Un (frs X.stack) ch H H' s.heap s'.heap) (hok:HOk X.prog X.w H' s'.heap) (hg:AllBare s'.gens)
  (hch:∀ b∈ch,(b∈X.ex\/X.s₀.heap.objs.size<=b)/\b≠X.env.locals/\(∀ x c,X.env.cells.lookup x=some c->c≠b)/\∀ p∈X.pn++pins,p.1≠b):Inv X pins σ H' s':=by
 obtain ⟨h',g',d',t',o'⟩:=s'
 have e:o'=s.os:=ho
 subst e
 exact I.call (g':=g') (t':=t') (d':=d') u hok hg hch
end
abbrev XK:=Value->Option Addr->Hp->Prop
abbrev St:=List (Option V)
abbrev VK:=V->Hp->Prop
abbrev TE:=St->Hp->VK->Prop
abbrev TT:=St->Hp->(Bool->Hp->Prop)->Prop
abbrev TA:=St->Hp->(List V->Hp->Prop)->Prop
structure Ends where
 nx:St->Hp->Prop
 rt:VK
 bk:St->Hp->Prop:=fun _ _=>False
 ct:St->Hp->Prop:=fun _ _=>False
abbrev TS:=Ends->St->Hp->Prop
def EP (X:Cx) (pins:List (Addr×Obj)) (σ:St) (Q:VK) (u:Value) (s':Shared):Prop:=∃ v H',Inv X pins σ H' s'/\RelV v u/\Q v H'
def TP (X:Cx) (pins:List (Addr×Obj)) (σ:St) (Q:Bool->Hp->Prop) (b:Bool) (s':Shared):Prop:=∃ H',Inv X pins σ H' s'/\Q b H'
def AP (X:Cx) (pins:List (Addr×Obj)) (σ:St) (Q:List V->Hp->Prop) (us:List Value) (s':Shared):Prop:=∃ vs H',Inv X pins σ H' s'/\Vals vs us/\Q vs H'
def SP (X:Cx) (pins:List (Addr×Obj)) (D:Ends) (f:Flow) (s':Shared):Prop :=
 match f with
 | .next=>∃ σ' H',Inv X pins σ' H' s'/\D.nx σ' H'
 | .brk=>∃ σ' H',Inv X pins σ' H' s'/\D.bk σ' H'
 | .cont=>∃ σ' H',Inv X pins σ' H' s'/\D.ct σ' H'
 | .ret u=>∃ v σ' H',Inv X pins σ' H' s'/\RelV v u/\D.rt v H'
def PE (X:Cx) (e:Expr) (t:TE):Prop :=
 ∀ (pins:List (Addr×Obj)) (s:Shared) (σ:St) (H:Hp) (Q:VK),Inv X pins σ H s->t σ H Q->wpAny (model X.prog X.w) X.A (eval e X.env) (EP X pins σ Q) X.xe s
def PT (X:Cx) (e:Expr) (t:TT):Prop :=
 ∀ (pins:List (Addr×Obj)) (s:Shared) (σ:St) (H:Hp) (Q:Bool->Hp->Prop),Inv X pins σ H s->t σ H Q->wpAny (model X.prog X.w) X.A (isTrue e X.env (eval e X.env)) (TP X pins σ Q) X.xe s
def PW (X:Cx) (e:Expr) (t:TT):Prop :=
 ∀ (whole:Sem Value) (pins:List (Addr×Obj)) (s:Shared) (σ:St) (H:Hp) (Q:Bool->Hp->Prop),Inv X pins σ H s->t σ H Q->wpAny (model X.prog X.w) X.A (isTrue e X.env whole) (TP X pins σ Q) X.xe s
def PA (X:Cx) (es:List Expr) (t:TA):Prop :=
 ∀ (pos:Pos) (pins:List (Addr×Obj)) (s:Shared) (σ:St) (H:Hp) (Q:List V->Hp->Prop),Inv X pins σ H s->t σ H Q->wpAny (model X.prog X.w) X.A (spliced (backTo pos (starEach es X.env))) (AP X pins σ Q) X.xe s
def PS (X:Cx) (st:Stmt) (t:TS):Prop :=
 ∀ (pins:List (Addr×Obj)) (s:Shared) (σ:St) (H:Hp) (D:Ends),Inv X pins σ H s->t D σ H->wpAny (model X.prog X.w) X.A (exec st X.env) (SP X pins D) X.xe s
def PSs (X:Cx) (st:List Stmt) (t:TS):Prop :=
 ∀ (pins:List (Addr×Obj)) (s:Shared) (σ:St) (H:Hp) (D:Ends),Inv X pins σ H s->t D σ H->wpAny (model X.prog X.w) X.A (execs st X.env) (SP X pins D) X.xe s
theorem thn {α:Type}{t:Sem α}{Q Q':α->Shared->Prop}{M:Model}{A:Around}{E:Value->Shared->Prop}{s:Shared} (h:wpAny M A t Q E s) (hQ:∀ a s,Q a s->Q' a s):wpAny M A t Q' E s:=wpAny_mono h hQ fun _ _ x=>x
end L2
namespace L2
open PySem PySem.Spec PyProof.Rows
section
variable {X:Cx}
def tVar (i:Nat):TE:=fun σ H Q=>∃ v,σ[i]?=some (some v)/\Q v H
def tC (v:V):TE:=fun _ H Q=>Q v H
theorem sD' {i:Nat}{x:Str}{pos:Pos} (hN:X.N[i]?=some x) (hv:Vis X.env.scope x) (hd:(x == ("__debug__":Str))=false:=by decide) (hcd:(x == ("__classdict__":Str))=false:=by decide):PE X (.Name x pos) (tVar i):=by
 intro pins s σ H Q I h
 obtain ⟨v,e,h⟩:=h
 obtain ⟨m,hn,hl⟩:=I.loc
 obtain ⟨u,r,l⟩:=hl i x v hN e hv
 have fin:EP X pins σ Q u s:=⟨v,H,I,r,h⟩
 rcases l with ⟨hk,hm⟩ | ⟨hk,c,hc,hcell⟩
 ·exact wpAny_Name (wpAny_loadName_local I.ok.kind hk hn hm fin) hd
 ·rcases hk with hk | hk
  ·exact wpAny_Name (wpAny_loadName_cell I.ok.kind hk hc hcell fin) hd
  ·exact wpAny_Name (wpAny_loadName_free I.ok.kind hk hc hcell fin hcd) hd
theorem sE' {i j pos}:PE X (.Constant (.int i) j pos) (tC (.int i)):=fun _ _ _ H _ I h=>wpAny_Constant_int ⟨.int i,H,I.tok _,⟨_,rfl⟩,h⟩
theorem tY' {b j pos}:PE X (.Constant (.bool b) j pos) (tC (.bl b)):=fun _ _ _ H _ I h=>Constant_bool ⟨.bl b,H,I,rfl,h⟩
theorem sF' {j pos}:PE X (.Constant .none j pos) (tC .non):=fun _ _ _ H _ I h=>Constant_none ⟨.non,H,I,rfl,h⟩
theorem sG' {x j pos}:PE X (.Constant (.str x) j pos) (tC (.str x)):=fun _ _ _ H _ I h=>Calls.Constant_str ⟨.str x,H,I.tok _,⟨_,rfl⟩,h⟩
def Gl (X:Cx) (x:Str):Prop:=X.env.kindOf x=some .globalImplicit
theorem rC' {E:Value->Shared->Prop}{pins:List (Addr×Obj)}{s:Shared}{σ:St}{H:Hp}{x:Str}{u:Value}{pos:Pos}{Q:Value->Shared->Prop} (I:Inv X pins σ H s) (hg:Gl X x) (hm:X.mg x=some u) (h:Q u s)
  (hd:(x == ("__debug__":Str))=false:=by decide):wpAny (model X.prog X.w) X.A (eval (.Name x pos) X.env) Q E s :=
 Calls.Name_function_global I.ok.kind hg (Calls.loadGlobal_global (by rw [I.ok.glob];exact I.mod.glob.keeps I.bk) hm h) hd
theorem cQ' {E:Value->Shared->Prop}{pins:List (Addr×Obj)}{s:Shared}{σ:St}{H:Hp}{x:Str}{u:Value}{pos:Pos}{Q:Value->Shared->Prop} (I:Inv X pins σ H s) (hg:Gl X x) (hm:X.mg x=none) (hv:bootBuiltins x=some u) (h:Q u s)
  (hn:x ≠ "__name__":=by decide) (hd:(x == ("__debug__":Str))=false:=by decide):wpAny (model X.prog X.w) X.A (eval (.Name x pos) X.env) Q E s:=by
 obtain ⟨mb,h1,h2⟩:=I.mod.blt
 exact Calls.Name_function_global I.ok.kind hg (Calls.loadGlobal_builtin (by rw [I.ok.glob];exact I.mod.glob.keeps I.bk) hm (by rw [I.ok.blt];exact h1.keeps I.bk) ((h2 x hn).trans hv) h) hd
theorem rD' {x:Str}{v:V}{u:Value}{pos:Pos} (hg:Gl X x) (hm:X.mg x=none) (hv:bootBuiltins x=some u) (r:RelV v u) (hn:x ≠ "__name__":=by decide) (hd:(x == ("__debug__":Str))=false:=by decide):PE X (.Name x pos) (tC v) :=
 fun _ _ _ H _ I h=>cQ' I hg hm hv ⟨v,H,I,r,h⟩ hn hd
variable {a b:Expr}{ta tb:TE}{pos:Pos}
def tB (t:TE):TT:=fun σ H Q=>t σ H fun x H1=>∃ c,x=.bl c/\Q c H1
theorem sH' {e:Expr}{t:TE} (h:PE X e t) (he:∀ whole,isTrue e X.env whole=(do let v ← whole;standAt e.pos;holding [v] (truthy v)):=by intro _;rfl):PT X e (tB t):=by
 intro pins s σ H Q I hw
 refine isTrue_plain (thn (h pins s σ H _ I hw) fun v s1 ⟨x,H1,I1,r1,q1⟩=>?_) (he _)
 obtain ⟨d,rfl,q⟩:=q1
 cases r1
 exact wpAny_truthy_bool ⟨H1,I1,q⟩
variable {tA tB':TT}{rest:List Expr}
def tAnd (t u:TT):TT:=fun σ H Q=>t σ H fun c H1=>if c=true then u σ H1 Q else Q false H1
def tOr (t u:TT):TT:=fun σ H Q=>t σ H fun c H1=>if c=true then Q true H1 else u σ H1 Q
def tNot (t:TT):TT:=fun σ H Q=>t σ H fun c H1=>Q (!c) H1
theorem rE' (ha:PT X a tA):PW X (.BoolOp .And [a] pos) tA:=by
 intro wh pins s σ H Q I h
 refine isTrue_and (thn (ha pins s σ H Q I h) fun c s1 e=>?_)
 cases c with
 | true=>exact isTrue_and_nil e
 | false=>exact e
theorem sI' (ha:PT X a tA):PW X (.BoolOp .Or [a] pos) tA:=by
 intro wh pins s σ H Q I h
 refine isTrue_or (thn (ha pins s σ H Q I h) fun c s1 e=>?_)
 cases c with
 | false=>exact isTrue_or_nil e
 | true=>exact e
theorem sJ' (ha:PT X a tA) (hb:PW X (.BoolOp .And (b::rest) pos) tB'):PW X (.BoolOp .And (a::b::rest) pos) (tAnd tA tB'):=by
 intro wh pins s σ H Q I h
 refine isTrue_and (thn (ha pins s σ H _ I h) fun c s1 ⟨H1,I1,q1⟩=>?_)
 cases c with
 | true=>exact hb wh pins s1 σ H1 Q I1 q1
 | false=>exact ⟨H1,I1,q1⟩
theorem tZ' (ha:PT X a tA) (hb:PW X (.BoolOp .Or (b::rest) pos) tB'):PW X (.BoolOp .Or (a::b::rest) pos) (tOr tA tB'):=by
 intro wh pins s σ H Q I h
 refine isTrue_or (thn (ha pins s σ H _ I h) fun c s1 ⟨H1,I1,q1⟩=>?_)
 cases c with
 | true=>exact ⟨H1,I1,q1⟩
 | false=>exact hb wh pins s1 σ H1 Q I1 q1
theorem sK' (ha:PT X a tA):PT X (.UnaryOp .Not a pos) (tNot tA):=by
 intro pins s σ H Q I h
 exact isTrue_not (ha pins s σ H (fun c H1=>Q (!c) H1) I h)
def tAndV (ta tb:TE):TE:=fun σ H Q=>ta σ H fun x H1=>∃ c,x=.bl c/\if c=true then tb σ H1 Q else Q (.bl false) H1
theorem sL' {op}{t:TE} (h:PE X a t):PE X (.BoolOp op [a] pos) t:=fun pins s σ H Q I hw=>BoolOp_one (h pins s σ H Q I hw)
theorem sM' (ha:PE X a ta) (hb:PE X (.BoolOp .And (b::rest) pos) tb):PE X (.BoolOp .And (a::b::rest) pos) (tAndV ta tb):=by
 intro pins s σ H Q I h
 refine BoolOp_and (thn (ha pins s σ H _ I h) fun v s1 ⟨x,H1,I1,r1,q1⟩=>?_)
 obtain ⟨c,rfl,q1⟩:=q1
 cases r1
 refine wpAny_truthy_bool ?_
 cases c with
 | true=>exact hb pins s1 σ H1 Q I1 q1
 | false=>exact ⟨.bl false,H1,I1,rfl,q1⟩
def tIf (t:TT) (ta tb:TE):TE:=fun σ H Q=>t σ H fun c H1=>if c=true then ta σ H1 Q else tb σ H1 Q
theorem qn' {c:Expr} (hc:PT X c tA) (ha:PE X a ta) (hb:PE X b tb):PE X (.IfExp c a b pos) (tIf tA ta tb):=by
 intro pins s σ H Q I h
 refine wpAny_IfExp (thn (hc pins s σ H _ I h) fun d s1 ⟨H1,I1,q1⟩=>?_)
 cases d with
 | true=>exact ha pins s1 σ H1 Q I1 q1
 | false=>exact hb pins s1 σ H1 Q I1 q1
end
end L2
namespace L2
open PySem PySem.Spec PyProof.Rows
def SqL (K:PySem.W.Frag) (H:Hp) (a:Addr) (xs:List V):Prop :=
 Rd H a (.lst xs) ∨
  ∃ (o:Obj) (its:Array Value) (n:Nat),K.lookup a=some o/\o.cls=.type "list"/\o.dict=none/\o.data=.seq its n/\its.size<=sizeLine/\Vals xs its.toList
def SqT (K:PySem.W.Frag) (H:Hp) (a:Addr) (xs:List V):Prop :=
 Rd H a (.tup xs) ∨
  ∃ (o:Obj) (its:Array Value) (n:Nat),K.lookup a=some o/\o.cls=.type "tuple"/\o.data=.seq its n/\its.size<=sizeLine/\Vals xs its.toList
def absV:Value->Option V
 | .none=>some .non
 | .bool b=>some (.bl b)
 | .int i _=>some (.int i)
 | .str x _=>some (.str x)
 | .bytes b _=>some (.byt b)
 | .float b _=>some (.flt b)
 | .ref a=>some (.ref a)
 | .type n=>some (.ty n)
 | _=>none
theorem RelV.abs {x:V}{u:Value} (r:RelV x u):absV u=some x:=by
 cases x with
 | non=>cases r;rfl
 | bl _=>cases r;rfl
 | int _=>obtain ⟨t,rfl⟩:=r;rfl
 | str _=>obtain ⟨t,rfl⟩:=r;rfl
 | byt _=>obtain ⟨t,rfl⟩:=r;rfl
 | flt _=>obtain ⟨t,rfl⟩:=r;rfl
 | ref _=>cases r;rfl
 | ty _=>cases r;rfl
theorem RelV.inj {x y:V}{u:Value} (r:RelV x u) (q:RelV y u):x=y:=Option.some.inj (r.abs.symm.trans q.abs)
theorem Vals.inj:∀ {xs ys:List V}{us:List Value},Vals xs us->Vals ys us->xs=ys
 | _,_,_,.nil,.nil=>rfl
 | _,_,_,.cons r t,.cons r' t'=>by rw [r.inj r',Vals.inj t t']
section
variable {X:Cx}{pins:List (Addr×Obj)}{σ:St}{H:Hp}{s:Shared}{a:Addr}{xs ys:List V}
theorem SqL.of {K:PySem.W.Frag} (h:H a=some (.lst xs)):SqL K H a xs:=.inl (.inl h)
theorem SqT.of {K:PySem.W.Frag} (h:H a=some (.tup xs)):SqT K H a xs:=.inl (.inl h)
theorem Inv.list (I:Inv X pins σ H s) (h:SqL X.K H a xs):∃ its:List Value,Vals xs its/\PlainL s.heap a its.toArray/\xs.length<=sizeLine:=by
 rcases h with h | ⟨o,its,n,hk,hc,hd,hs,hz,r⟩
 ·obtain ⟨z,its,n,r,e⟩:=h.ok I.hok
  exact ⟨its,r,⟨_,n,e,rfl,rfl,rfl⟩,z⟩
 ·refine ⟨its.toList,r,⟨o,n,I.kIn a o hk,hc,hd,by simpa using hs⟩,?_⟩
  have e:=r.length
  simp only [Array.length_toList] at e
  omega
theorem Inv.tuple (I:Inv X pins σ H s) (h:SqT X.K H a xs):∃ its:List Value,Vals xs its/\IsTup s.heap a its.toArray/\xs.length<=sizeLine:=by
 rcases h with h | ⟨o,its,n,hk,hc,hs,hz,r⟩
 ·obtain ⟨z,its,r,p⟩:=h.ok I.hok
  exact ⟨its,r,p,z⟩
 ·refine ⟨its.toList,r,⟨o,I.kIn a o hk,hc,n,by simpa using hs⟩,?_⟩
  have e:=r.length
  simp only [Array.length_toList] at e
  omega
theorem Inv.list_inj (I:Inv X pins σ H s) (h:SqL X.K H a xs) (h':SqL X.K H a ys):xs=ys:=by
 obtain ⟨its,r,⟨o,n,e,_,_,d⟩,_⟩:=I.list h
 obtain ⟨its',r',⟨o',n',e',_,_,d'⟩,_⟩:=I.list h'
 rw [e] at e';cases e'
 rw [d] at d'
 injection d' with d1 _
 have:its=its':=by simpa using congrArg Array.toList d1
 subst this
 exact r.inj r'
theorem Inv.tuple_inj (I:Inv X pins σ H s) (h:SqT X.K H a xs) (h':SqT X.K H a ys):xs=ys:=by
 obtain ⟨its,r,⟨o,e,_,n,d⟩,_⟩:=I.tuple h
 obtain ⟨its',r',⟨o',e',_,n',d'⟩,_⟩:=I.tuple h'
 rw [e] at e';cases e'
 rw [d] at d'
 injection d' with d1 _
 have:its=its':=by simpa using congrArg Array.toList d1
 subst this
 exact r.inj r'
end
abbrev Cx.wish (X:Cx) (E:Value->Shared->Prop):Cx:={ X with xe:=E }
abbrev Cx.nox (X:Cx):Cx:=X.wish fun _ _=>False
theorem Cx.Ok.wish {X:Cx} (ok:X.Ok) (E:Value->Shared->Prop):(X.wish E).Ok :=
 ⟨ok.mod,ok.kind,ok.glob,ok.blt,ok.above,ok.inj,ok.has,ok.cab,ok.hd,ok.frames,ok.stk,ok.exf,ok.bs,ok.bsz,ok.noex,ok.exfs,ok.funs,ok.frf⟩
theorem Cx.Ok.unwish {X:Cx}{E:Value->Shared->Prop} (ok:(X.wish E).Ok):X.Ok :=
 ⟨ok.mod,ok.kind,ok.glob,ok.blt,ok.above,ok.inj,ok.has,ok.cab,ok.hd,ok.frames,ok.stk,ok.exf,ok.bs,ok.bsz,ok.noex,ok.exfs,ok.funs,ok.frf⟩
section
variable {X:Cx}{pins:List (Addr×Obj)}{σ:St}{H:Hp}{s:Shared}{E:Value->Shared->Prop}
theorem Inv.wish (I:Inv X pins σ H s) (E:Value->Shared->Prop):Inv (X.wish E) pins σ H s:=⟨I.ok.wish E,I.os,I.bare,I.base,I.loc,I.cell,I.free,I.freeC,I.pin,I.hok,I.len⟩
theorem Inv.unwish (I:Inv (X.wish E) pins σ H s):Inv X pins σ H s:=⟨I.ok.unwish,I.os,I.bare,I.base,I.loc,I.cell,I.free,I.freeC,I.pin,I.hok,I.len⟩
theorem SP.unwish {D:Ends}{f:Flow}{s':Shared} (h:SP (X.wish E) pins D f s'):SP X pins D f s':=by
 cases f with
 | next=>obtain ⟨σ',H',I,q⟩:=h;exact ⟨σ',H',I.unwish,q⟩
 | brk=>obtain ⟨σ',H',I,q⟩:=h;exact ⟨σ',H',I.unwish,q⟩
 | cont=>obtain ⟨σ',H',I,q⟩:=h;exact ⟨σ',H',I.unwish,q⟩
 | ret u=>obtain ⟨v,σ',H',I,r,q⟩:=h;exact ⟨v,σ',H',I.unwish,r,q⟩
theorem PSs.nox {st:List Stmt}{t:TS} (h:PSs X.nox st t):PSs X st t:=fun pins s σ H D I hw =>
 wpAny_mono (h pins s σ H D (I.wish _) hw) (fun _ _ q=>q.unwish) fun _ _ z=>False.elim z
end
section
variable {X:Cx}{st:Stmt}{rest:List Stmt}{t u:TS}{e:Expr}{te:TE}{pos:Pos}
def tNext:TS:=fun D σ H=>D.nx σ H
def tSeq (t u:TS):TS:=fun D σ H=>t { D with nx:=u D } σ H
theorem rF':PSs X [] tNext:=fun _ _ σ H _ I h=>wpAny_execs_nil ⟨σ,H,I,h⟩
theorem qo' (h1:PS X st t) (h2:PSs X rest u):PSs X (st::rest) (tSeq t u):=by
 intro pins s σ H D I h
 refine wpAny_execs_cons (thn (h1 pins s σ H { D with nx:=u D } I h) fun f s1 q=>?_)
 cases f with
 | next =>
  obtain ⟨σ',H',I',q⟩:=q
  exact h2 pins s1 σ' H' D I' q
 | ret v=>exact q
 | brk=>exact q
 | cont=>exact q
theorem rG' (h1:PS X st t):PSs X [st] t:=by
 intro pins s σ H D I h
 refine wpAny_execs_cons (thn (h1 pins s σ H D I h) fun f s1 q=>?_)
 cases f with
 | next=>exact wpAny_execs_nil q
 | ret v=>exact q
 | brk=>exact q
 | cont=>exact q
theorem Inv.quiet {pins:List (Addr×Obj)}{σ:St}{H:Hp}{s:Shared} (I:Inv X pins σ H s):interactive X.env=false:=by simp [interactive,I.ok.kind]
def tDrop (te:TE):TS:=fun D σ H=>te σ H fun _ H1=>D.nx σ H1
theorem jd' (he:PE X e te) (hs:swapsWith e none pos.line X.env=pure false:=by rfl):PS X (.Expr e pos) (tDrop te):=by
 intro pins s σ H D I h
 exact wpAny_Expr_any (thn (he pins s σ H _ I h) fun v s1 ⟨x,H1,I1,r1,q1⟩=>⟨σ,H1,I1,q1⟩) I.quiet hs
def tRet (te:TE):TS:=fun D σ H=>te σ H D.rt
theorem k2' (he:PE X e te):PS X (.Return (some e) pos) (tRet te):=by
 intro pins s σ H D I h
 exact wpAny_Return_some (thn (he pins s σ H _ I h) fun v s1 ⟨x,H1,I1,r1,q1⟩=>⟨x,σ,H1,I1,r1,q1⟩)
def tIfS (c:TT) (t u:TS):TS:=fun D σ H=>c σ H fun b H1=>if b=true then t D σ H1 else u D σ H1
theorem t0' {c:Expr}{a b:List Stmt}{tc:TT} (hc:PT X c tc) (ha:PSs X a t) (hb:PSs X b u):PS X (.If c a b pos) (tIfS tc t u):=by
 intro pins s σ H D I h
 refine wpAny_If (thn (hc pins s σ H _ I h) fun d s1 ⟨H1,I1,q1⟩=>?_)
 cases d with
 | true=>exact ha pins s1 σ H1 D I1 q1
 | false=>exact hb pins s1 σ H1 D I1 q1
def tNever:TS:=fun _ _ _=>False
theorem qp':PS X st tNever:=fun _ _ _ _ _ _ h=>h.elim
end
abbrev TG:=V->St->Hp->(St->Hp->Prop)->Prop
abbrev TGs:=List V->St->Hp->(St->Hp->Prop)->Prop
def PG (X:Cx) (target:Expr) (t:TG):Prop :=
 ∀ (pins:List (Addr×Obj)) (s:Shared) (σ:St) (H:Hp) (v:V) (u:Value) (Q:St->Hp->Prop),Inv X pins σ H s->RelV v u->t v σ H Q →
  wpAny (model X.prog X.w) X.A (assign target X.env u) (fun _ s'=>∃ σ' H',Inv X pins σ' H' s'/\Q σ' H') X.xe s
def PGs (X:Cx) (ts:List Expr) (t:TGs):Prop :=
 ∀ (pins:List (Addr×Obj)) (s:Shared) (σ:St) (H:Hp) (vs:List V) (us:List Value) (Q:St->Hp->Prop),Inv X pins σ H s->Vals vs us->t vs σ H Q →
  wpAny (model X.prog X.w) X.A (assignInOrder ((assignEach ts X.env).map (·.2)) us) (fun _ s'=>∃ σ' H',Inv X pins σ' H' s'/\Q σ' H') X.xe s
abbrev TSet:=V->V->V->Hp->(Hp->Prop)->Prop
def PSet (X:Cx) (t:TSet):Prop :=
 ∀ (pins:List (Addr×Obj)) (s:Shared) (σ:St) (H:Hp) (o i v:V) (ov iv u:Value) (Q:Hp->Prop),Inv X pins σ H s->RelV o ov->RelV i iv->RelV v u->t o i v H Q →
  wpAny (model X.prog X.w) X.A (setItem ov iv u) (fun _ s'=>∃ H',Inv X pins σ H' s'/\Q H') X.xe s
section
variable {X:Cx}{pos:Pos}
def gName (i:Nat):TG:=fun v σ H Q=>Q (σ.set i (some v)) H
theorem rH' {i:Nat}{x:Str} (hN:X.N.Nodup) (hi:X.N[i]?=some x) (hx:Loc X.env.scope x) (hf:X.fn x=true\/X.env.scope.names.lookup x=some .local:=by first | exact .inl rfl | exact .inr rfl | assumption):PG X (.Name x pos) (gName i):=by
 intro pins s σ H v u Q I r h
 exact wpAny_assign_Name (k1' I hN hi hx r (fun s' I'=>⟨_,H,I',h⟩) hf)
def gNil:TGs:=fun vs σ H Q=>vs=[]/\Q σ H
def gCons (t:TG) (u:TGs):TGs:=fun vs σ H Q=>∃ v r,vs=v::r/\t v σ H fun σ' H'=>u r σ' H' Q
theorem rI':PGs X [] gNil:=by
 intro pins s σ H vs us Q I r h
 obtain ⟨e,h⟩:=h
 subst e
 cases r
 exact assignInOrder_nil ⟨σ,H,I,h⟩
theorem qq' {e:Expr}{es:List Expr}{t:TG}{u:TGs} (h1:PG X e t) (h2:PGs X es u)
  (hs:(assignEach (e::es) X.env).map (·.2)=assign e X.env::(assignEach es X.env).map (·.2):=by rfl):PGs X (e::es) (gCons t u):=by
 intro pins s σ H vs us Q I r h
 obtain ⟨v,vr,e1,h⟩:=h
 subst e1
 cases r with
 | cons r rr =>
  rw [hs]
  refine assignInOrder_cons (thn (h1 pins s σ H _ _ _ I r h) fun _ s1 ⟨σ1,H1,I1,q1⟩=>?_)
  exact h2 pins s1 σ1 H1 _ _ Q I1 rr q1
def gTup (K:PySem.W.Frag) (n:Nat) (t:TGs):TG:=fun v σ H Q=>∃ a xs,v=.ref a/\SqT K H a xs/\xs.length=n/\t xs σ H Q
theorem sN' {es:List Expr}{k:Nat}{t:TGs}{n:Nat} (hc:X.calm=true) (h:PGs X es t)
  (hn:(assignEach es X.env).length=n:=by rfl) (hst:(assignEach es X.env).findIdx? (·.1)=none:=by rfl):PG X (.Tuple es k pos) (gTup X.K n t):=by
 intro pins s σ H v u Q I r hw
 obtain ⟨a,xs,e1,hq,hl,hw⟩:=hw
 subst e1
 cases r
 obtain ⟨its,rv,ht,hz⟩:=I.tuple hq
 refine assign_Tuple_tuple (I.ok.hd hc) ht (by simp [hn,← hl,rv.length]) hst fun h' hx=>?_
 have I1:Inv X pins σ H { s with heap:=h' }:=I.kept (t':=s.toks) fun b o e=>hx b o (Nat.ne_of_lt (Heap.lt_size e)) e
 exact h pins _ σ H xs _ Q I1 (by simpa using rv) hw
def gSub (to ti:TE) (t:TSet):TG:=fun v σ H Q=>to σ H fun o H1=>ti σ H1 fun i H2=>t o i v H2 fun H3=>Q σ H3
theorem sO' {o i:Expr}{to ti:TE}{t:TSet} (ho:PE X o to) (hi:PE X i ti) (hs:PSet X t)
  (ha:∀ v,assign (.Subscript o i pos) X.env v=(do
   let ov ← holding [v] (eval o X.env)
   let iv ← holding [v,ov] (eval i X.env)
   standAt pos
   holding [v,ov,iv] (setItem ov iv v)
   release [v,ov,iv] []):=by intro _;rfl):PG X (.Subscript o i pos) (gSub to ti t):=by
 intro pins s σ H v u Q I r h
 rw [ha]
 refine wpAny_bind (wpAny_holding (thn (ho pins s σ H _ I h) fun ov s1 ⟨x,H1,I1,r1,q1⟩=>?_))
 refine wpAny_bind (wpAny_holding (thn (hi pins s1 σ H1 _ I1 q1) fun iv s2 ⟨y,H2,I2,r2,q2⟩=>?_))
 refine wpAny_bind (wpAny_standAt (wpAny_bind (wpAny_holding (thn (hs pins s2 σ H2 x y v ov iv u _ I2 r1 r2 r q2) fun _ s3 ⟨H3,I3,q3⟩=>?_))))
 exact wpAny_release ⟨σ,H3,I3,q3⟩
def tAsg (te:TE) (g:TG):TS:=fun D σ H=>te σ H fun x H1=>g x σ H1 D.nx
theorem oS' {tg e:Expr}{te:TE}{g:TG} (he:PE X e te) (hg:PG X tg g) (hs:swapsWithSole [tg] e pos.line X.env=pure false:=by rfl) (hw:swappedStores [tg] e X.env=pure none:=by rfl)
  (h1:(assignEach [tg] X.env).map (·.2)=[assign tg X.env]:=by rfl):PS X (.Assign [tg] e pos) (tAsg te g):=by
 intro pins s σ H D I h
 refine wpAny_Assign_stores (thn (he pins s σ H _ I h) fun v s1 ⟨x,H1,I1,r1,q1⟩=>?_) hs hw
 rw [h1]
 exact thn (hg pins s1 σ H1 x v _ I1 r1 q1) fun _ s2 q=>q
theorem iE' {i:Nat}{x:Str}{e:Expr}{te:TE}{pos':Pos} (hN:X.N.Nodup) (hi:X.N[i]?=some x) (hx:Loc X.env.scope x) (he:PE X e te) (hs:swapsWith e (some (.Name x pos')) pos.line X.env=pure false:=by rfl) (hf:X.fn x=true\/X.env.scope.names.lookup x=some .local:=by first | exact .inl rfl | exact .inr rfl | assumption) :
  PS X (.Assign [.Name x pos'] e pos) (tAsg te (gName i)):=by
 intro pins s σ H D I h
 refine wpAny_Assign_Name (thn (he pins s σ H _ I h) fun v s1 ⟨y,H1,I1,r1,q1⟩=>?_) hs
 exact k1' I1 hN hi hx r1 (fun s2 I2=>⟨_,H1,I2,q1⟩) hf
end
section
variable {X:Cx}{pos:Pos}
def tWhile (c:TT) (tb:TS):TS:=fun D σ H=>∃ W:Nat->St->Hp->Prop,(∃ m,W m σ H)/\∀ m σ H,W m σ H →
 c σ H fun b H1=>if b=true then ∃ N:St->Hp->Prop,(∀ σ' H',N σ' H'->∃ m',m' < m/\W m' σ' H')/\tb { D with nx:=N,ct:=N,bk:=D.nx } σ H1 else D.nx σ H1
theorem qs' {c:Expr}{body:List Stmt}{tc:TT}{tb:TS} (hp:PassesOwn (model X.prog X.w) X.A X.env X.xe) (hc:PT X c tc) (hb:PSs X body tb):PS X (.While c body [] pos) (tWhile tc tb):=by
 intro pins s σ H D I h
 obtain ⟨W,⟨m0,w0⟩,turn⟩:=h
 refine wpAny_While (codeAny_whileLoop (fun n s'=>∃ σ' H',Inv X pins σ' H' s'/\W n σ' H') ?_ m0 ⟨σ,H,I,w0⟩)
 rintro n s1 ⟨σ1,H1,I1,w1⟩
 refine wpAny_passesOwn hp (thn (hc pins s1 σ1 H1 _ I1 (turn n σ1 H1 w1)) fun b s2 ⟨H2,I2,q2⟩=>?_)
 cases b with
 | true =>
  obtain ⟨N,hN,q2⟩:=q2
  rw [if_pos rfl]
  refine wpAny_passesOwn hp (thn (hb pins s2 σ1 H2 _ I2 q2) fun f s3 q3=>?_)
  cases f with
  | next =>
   obtain ⟨σ3,H3,I3,n3⟩:=q3
   obtain ⟨m',hm,w3⟩:=hN σ3 H3 n3
   exact ⟨m',hm,σ3,H3,I3,w3⟩
  | cont =>
   obtain ⟨σ3,H3,I3,n3⟩:=q3
   obtain ⟨m',hm,w3⟩:=hN σ3 H3 n3
   exact ⟨m',hm,σ3,H3,I3,w3⟩
  | brk=>exact q3
  | ret v=>exact q3
 | false =>
  rw [if_neg Bool.false_ne_true]
  exact wpAny_execs_nil ⟨σ1,H2,I2,q2⟩
end
structure It where
 go:Nat->Hp->Prop
 yld:Nat->Hp->V->Hp->Prop
 stop:Nat->Hp->Prop
def FpOk (X:Cx) (pins:List (Addr×Obj)) (H:Hp) (b:Addr):Prop :=
 H b=none/\b≠X.env.locals/\b∉X.fs/\(b∈X.ex\/X.s₀.heap.objs.size<=b)/\(∀ x c,X.env.cells.lookup x=some c->c≠b)/\∀ p∈X.pn++pins,p.1≠b
theorem Inv.fpOk {X:Cx}{pins:List (Addr×Obj)}{σ:St}{H H':Hp}{s:Shared}{b:Addr} (I:Inv X pins σ H s) (hb:s.heap.objs.size<=b) (hn:H' b=none):FpOk X pins H' b:=by
 refine ⟨hn,Nat.ne_of_gt (Nat.lt_of_lt_of_le I.lt hb),I.nofs hb,.inr (Nat.le_trans I.sz hb),fun x c e z=>?_,fun p hp z=>?_⟩
 ·obtain ⟨v,q⟩:=I.cell x c e
  exact absurd (Nat.lt_of_lt_of_le q.lt (by rw [z];exact hb)) (Nat.lt_irrefl _)
 ·exact absurd (Nat.lt_of_lt_of_le (Heap.lt_size (I.pin p hp).1) (by rw [z];exact hb)) (Nat.lt_irrefl _)
structure Turn (P:Program) (w:World) (K:PySem.W.Frag) (tg:Expr) (J:It) (fp:List Addr) (it:Addr) (tn:Nat->Heap->Prop):Prop where
 mem:it∈fp
 obj:∀ i h,tn i h->∀ b∈fp,∃ o,h.get? b=some o/\∀ v,o.data≠.cell v
 keep:∀ i h h',tn i h->(∀ b∈fp,∀ o,h.get? b=some o->h'.get? b=some o)->tn i h'
 item:∀ (X:Cx),X.prog=P->X.w=w->X.K=K->X.calm=true->∀ (i:Nat) (pins:List (Addr×Obj)) (s:Shared) (σ:St) (H:Hp) (E:Value->Shared->Prop),Inv X pins σ H s->(∀ b∈fp,FpOk X pins H b)->tn i s.heap->J.go i H →
  wpAny (model P w) X.A (pyNext (.ref it)) (fun r s1=>∃ u,r=some u ∧
   wpAny (model P w) X.A (letOwnedTupleGo tg (.ref it) u) (fun _ s2=>∃ x H',Inv X pins σ H' s2/\RelV x u/\J.yld i H x H'/\tn (i+1) s2.heap/\∀ b∈fp,H' b=none) E s1) E s
 done:∀ (X:Cx),X.prog=P->X.w=w->X.K=K->X.calm=true->∀ (i:Nat) (pins:List (Addr×Obj)) (s:Shared) (σ:St) (H:Hp) (E:Value->Shared->Prop),Inv X pins σ H s->(∀ b∈fp,FpOk X pins H b)->tn i s.heap->J.stop i H →
  wpAny (model P w) X.A (pyNext (.ref it)) (fun r s1=>r=none/\Inv X pins σ H s1) E s
 self:∀ (A:Around) (i:Nat) (s:Shared) (Q:Value->Shared->Prop) (E:Value->Shared->Prop),tn i s.heap->Q (.ref it) s->wpAny (model P w) A (pyIter (.ref it)) Q E s
abbrev TI:=St->Hp->(It->Hp->Prop)->Prop
def PIE (X:Cx) (pins:List (Addr×Obj)) (σ:St) (tg:Expr) (R:It->Hp->Prop) (itv:Value) (s2:Shared):Prop :=
 ∃ (it:Addr) (fp:List Addr) (tn:Nat->Heap->Prop) (J:It) (H':Hp),itv=.ref it/\Inv X pins σ H' s2/\Turn X.prog X.w X.K tg J fp it tn/\tn 0 s2.heap/\(∀ b∈fp,FpOk X pins H' b)/\R J H'
def PI (X:Cx) (tg iter:Expr) (wi:TI):Prop :=
 ∀ (pins:List (Addr×Obj)) (s:Shared) (σ:St) (H:Hp) (R:It->Hp->Prop),Inv X pins σ H s->wi σ H R →
  wpAny (model X.prog X.w) X.A (eval iter X.env) (fun v s1=>wpAny (model X.prog X.w) X.A (pyIter v) (PIE X pins σ tg R) X.xe s1) X.xe s
theorem nQ' {M:Model}{A:Around}{E:Value->Shared->Prop}{s:Shared}{tg:Expr}{it:Addr}{u:Value}{o:Obj}{n:String}{vs:Array Value}{Q:Unit->Shared->Prop} (ho:s.heap.get? it=some o) (hc:o.cls=.type n) (hd:o.data=.fields vs)
  (hn:["enumerate", "zip", "dict_itemiterator", "dict_reverseitemiterator", "odict_iterator", "itertools.zip_longest", "itertools.pairwise"].contains n=false) (hQ:Q () s):wpAny M A (letOwnedTupleGo tg (.ref it) u) Q E s:=by
 unfold letOwnedTupleGo
 cases tg<;>first
  | exact wpAny_pure hQ
  | (cases u<;>first
    | exact wpAny_pure hQ
    | (refine wpAny_bind (wpAny_load ho ?_)
       rw [hc,hd]
       show wpAny M A (if (["enumerate", "zip", "dict_itemiterator", "dict_reverseitemiterator", "odict_iterator", "itertools.zip_longest", "itertools.pairwise"].contains n&&vs[0]? == some (rawInt _))=true then _ else _) Q E s
       rw [if_neg (by intro h;rw [hn,Bool.false_and] at h;cases h)]
       exact wpAny_pure hQ))
def Itl (K:PySem.W.Frag) (a:Addr):It :=
 ⟨fun i H=>∃ xs x,SqL K H a xs/\xs[i]?=some x,fun i H x H'=>H'=H/\∀ xs,SqL K H a xs->xs[i]?=some x,fun i H=>∃ xs,SqL K H a xs/\xs.length<=i⟩
def Itt (K:PySem.W.Frag) (a:Addr):It :=
 ⟨fun i H=>∃ xs x,SqT K H a xs/\xs[i]?=some x,fun i H x H'=>H'=H/\∀ xs,SqT K H a xs->xs[i]?=some x,fun i H=>∃ xs,SqT K H a xs/\xs.length<=i⟩
def Itr (lo:Int) (n:Nat):It:=⟨fun i _=>i < n,fun i H x H'=>H'=H/\x=.int (lo+i),fun i _=>n<=i⟩
theorem oT' {P:Program}{w:World}{K:PySem.W.Frag}{tg:Expr} (a it:Addr):Turn P w K tg (Itl K a) [it] it (fun i h=>h.IsListIter it a i) where
 mem:=by simp
 obj:=fun i h st b hb=>by
  have e:b=it:=by simpa using hb
  subst e
  obtain ⟨o,e,c,d⟩:=st
  exact ⟨o,e,fun v z=>by rw [d] at z;cases z⟩
 keep:=fun i h h' st k=>st.at fun o e=>k it (by simp) o e
 item:=by
  intro X hP hw hK hc i pins s σ H E I hf st hg
  subst hP hw hK
  obtain ⟨xs,x,hq,hx⟩:=hg
  obtain ⟨its,rv,p,hz⟩:=I.list hq
  obtain ⟨u,hu,ru⟩:=rv.get hx
  obtain ⟨f0,f1,f2,f3,f4,f5⟩:=hf it (by simp)
  refine wpAny_pyNext_list_item st p.isList (x:=u) (by simpa using hu) fun h' st' sb=>?_
  have I1:Inv X pins σ H { s with heap:=h' }:=I.turned (t':=s.toks) (fun b o hb e=>(sb.2 b hb).trans e) f0 f1 f3 f4 f5
  obtain ⟨o,e,c,d⟩:=id st'
  exact ⟨u,rfl,nQ' (s:={ s with heap:=h' }) e c d (by decide) ⟨x,H,I1,ru,⟨rfl,fun ys hy=>by rw [I.list_inj hy hq];exact hx⟩,st',fun b hb=>(hf b hb).1⟩⟩
 done:=by
  intro X hP hw hK hc i pins s σ H E I hf st hg
  subst hP hw hK
  obtain ⟨xs,hq,hx⟩:=hg
  obtain ⟨its,rv,p,hz⟩:=I.list hq
  obtain ⟨f0,f1,f2,f3,f4,f5⟩:=hf it (by simp)
  have hl:=rv.length
  exact wpAny_pyNext_list_end (I.ok.hd hc) st p.isList (by simp;omega) fun h' eb=>⟨rfl,I.turned (t':=s.toks) (fun b o hb e=>eb b o hb e) f0 f1 f3 f4 f5⟩
 self:=fun _ _ _ _ _ st h=>wpAny_pyIter_listiter st h
theorem nR' {P:Program}{w:World}{K:PySem.W.Frag}{tg:Expr} (a it:Addr):Turn P w K tg (Itt K a) [it] it (fun i h=>h.IsTupleIter it a i) where
 mem:=by simp
 obj:=fun i h st b hb=>by
  have e:b=it:=by simpa using hb
  subst e
  obtain ⟨o,e,c,d⟩:=st
  exact ⟨o,e,fun v z=>by rw [d] at z;cases z⟩
 keep:=fun i h h' st k=>st.at fun o e=>k it (by simp) o e
 item:=by
  intro X hP hw hK hc i pins s σ H E I hf st hg
  subst hP hw hK
  obtain ⟨xs,x,hq,hx⟩:=hg
  obtain ⟨its,rv,p,hz⟩:=I.tuple hq
  obtain ⟨u,hu,ru⟩:=rv.get hx
  obtain ⟨f0,f1,f2,f3,f4,f5⟩:=hf it (by simp)
  refine wpAny_pyNext_tuple_item st (show s.heap.IsTuple a its.toArray from p) (x:=u) (by simpa using hu) fun h' st' sb=>?_
  have I1:Inv X pins σ H { s with heap:=h' }:=I.turned (t':=s.toks) (fun b o hb e=>(sb.2 b hb).trans e) f0 f1 f3 f4 f5
  obtain ⟨o,e,c,d⟩:=id st'
  exact ⟨u,rfl,nQ' (s:={ s with heap:=h' }) e c d (by decide) ⟨x,H,I1,ru,⟨rfl,fun ys hy=>by rw [I.tuple_inj hy hq];exact hx⟩,st',fun b hb=>(hf b hb).1⟩⟩
 done:=by
  intro X hP hw hK hc i pins s σ H E I hf st hg
  subst hP hw hK
  obtain ⟨xs,hq,hx⟩:=hg
  obtain ⟨its,rv,p,hz⟩:=I.tuple hq
  obtain ⟨f0,f1,f2,f3,f4,f5⟩:=hf it (by simp)
  have hl:=rv.length
  exact wpAny_pyNext_tuple_end (I.ok.hd hc) st (show s.heap.IsTuple a its.toArray from p) (by simp;omega) fun h' eb=>⟨rfl,I.turned (t':=s.toks) (fun b o hb e=>eb b o hb e) f0 f1 f3 f4 f5⟩
 self:=fun _ _ _ _ _ st h=>wpAny_pyIter_tupleiter st h
theorem nS' {P:Program}{w:World}{K:PySem.W.Frag}{tg:Expr} (it:Addr) (lo:Int) (n:Nat):Turn P w K tg (Itr lo n) [it] it (fun i h=>IsRangeIter h it (lo+(i:Nat)*1) ((n:Int) - (i:Nat)) 1) where
 mem:=by simp
 obj:=fun i h st b hb=>by
  have e:b=it:=by simpa using hb
  subst e
  exact ⟨_,st,fun v z=>by
   have z':Data.fields _=Data.cell v:=z
   cases z'⟩
 keep:=fun i h h' st k=>k it (by simp) _ st
 item:=by
  intro X hP hw hK hc i pins s σ H E I hf st hg
  subst hP hw hK
  obtain ⟨f0,f1,f2,f3,f4,f5⟩:=hf it (by simp)
  have W:=Walks.range (prog:=X.prog) (w:=X.w) (I.ok.hd hc) it lo 1 n
  refine W.item i s _ _ hg st fun v h' tk hv st' kk=>?_
  obtain ⟨t,rfl⟩:=hv
  have I1:Inv X pins σ H { s with heap:=h',toks:=tk }:=I.turned (fun b o hb e=>kk b o (by simpa using hb) e) f0 f1 f3 f4 f5
  refine ⟨_,rfl,nQ' (s:={ s with heap:=h',toks:=tk }) (n := "range_iterator") st' rfl rfl (by decide) ⟨.int (lo+i),H,I1,⟨t,?_⟩,⟨rfl,rfl⟩,st',fun b hb=>(hf b hb).1⟩⟩
  rw [Int.mul_one]
 done:=by
  intro X hP hw hK hc i pins s σ H E I hf st hg
  subst hP hw hK
  obtain ⟨f0,f1,f2,f3,f4,f5⟩:=hf it (by simp)
  exact wpAny_pyNext_range_end (I.ok.hd hc) st (by have:n<=i:=hg;omega) fun h' eb=>⟨rfl,I.turned (t':=s.toks) (fun b o hb e=>eb b o hb e) f0 f1 f3 f4 f5⟩
 self:=fun _ _ _ _ _ st h=>wpAny_pyIter_rangeiter st h
end L2
namespace L2
open PySem PySem.Spec PyProof.Rows
section
variable {X:Cx}{tg:Expr}
theorem k3' {pins:List (Addr×Obj)}{σ:St}{H:Hp}{s:Shared}{R:It->Hp->Prop}{E:Value->Shared->Prop}{lo hi:Int}{t u v:Tok}{tk:Nat} (I:Inv X pins σ H s) (h1:-(2 ^ 62)<=lo) (h2:lo < 2 ^ 62) (h3:-(2 ^ 62)<=hi) (h4:hi < 2 ^ 62)
  (q:R (Itr lo (hi - lo).toNat) H):wpAny (model X.prog X.w) X.A (pyIter (.ref s.heap.objs.size)) (PIE X pins σ tg R) E { s with heap:=s.heap.push { cls:=.type "range", data:=.fields #[.int lo t,.int hi u,.int 1 v] },toks:=tk }:=by
 refine wpAny_pyIter_range (IsRange.new ..) (small_one h1 h2 h3 h4) ?_
 have I1:Inv X pins σ H { s with heap:=s.heap.push { cls:=.type "range", data:=.fields #[.int lo t,.int hi u,.int 1 v] },toks:=tk }:=I.kept fun b o e=>Heap.get?_push_of_some _ e
 refine ⟨(s.heap.push { cls:=.type "range", data:=.fields #[.int lo t,.int hi u,.int 1 v] }).objs.size,[(s.heap.push { cls:=.type "range", data:=.fields #[.int lo t,.int hi u,.int 1 v] }).objs.size],_,_,H,rfl,
  I1.kept (t':=tk) fun b o e=>Heap.get?_push_of_some _ e,nS' _ lo (hi - lo).toNat,?_,fun b hb=>?_,q⟩
 ·have e1:lo+((0:Nat):Int)*1=lo:=by simp
  have e2:(((hi - lo).toNat:Nat):Int) - ((0:Nat):Int)=Builtin.Range.rangeSize lo hi 1:=by rw [rangeSize_one];split<;>omega
  show IsRangeIter _ _ (lo+((0:Nat):Int)*1) ((((hi - lo).toNat:Nat):Int) - ((0:Nat):Int)) 1
  rw [e1,e2]
  exact Heap.get?_push_size _ rfl
 ·have e:b=(s.heap.push { cls:=.type "range", data:=.fields #[.int lo t,.int hi u,.int 1 v] }).objs.size:=by simpa using hb
  subst e
  exact I1.fpOk (Nat.le_refl _) (I1.hok.fresh (Nat.le_refl _))
def iRng1 (ta:TA):TI:=fun σ H R=>ta σ H fun vs H1=>∃ j:Int,vs=[.int j]/\-(2 ^ 62)<=j/\j < 2 ^ 62/\R (Itr 0 j.toNat) H1
def iRng2 (ta:TA):TI:=fun σ H R=>ta σ H fun vs H1=>∃ i j:Int,vs=[.int i,.int j]/\(-(2 ^ 62)<=i/\i < 2 ^ 62/\-(2 ^ 62)<=j/\j < 2 ^ 62)/\R (Itr i (j - i).toNat) H1
theorem oU' {a:Expr}{ta:TA}{p pos:Pos} (hg:Gl X "range") (hm:X.mg "range"=none) (ha:PA X [a] ta) (hs:starEach [a] X.env=[(false,eval a X.env)]:=by rfl):PI X tg (.Call (.Name "range" p) [a] [] pos) (iRng1 ta):=by
 intro pins s σ H R I h
 refine Call_ (cQ' I hg hm boot_range (PyProof.Rows.callWith_type1 (thn (ha pos pins s σ H _ I h) fun us s1 ⟨vs,H1,I1,r1,q1⟩=>?_) hs rfl))
 obtain ⟨j,e,q1,q2,q⟩:=q1
 subst e
 cases r1 with
 | cons r rr =>
  cases rr
  obtain ⟨t,rfl⟩:=r
  exact call_range_1 (k3' I1 (by omega) (by omega) q1 q2 (by simpa using q))
theorem oV' {a b:Expr}{ta:TA}{p pos:Pos} (hg:Gl X "range") (hm:X.mg "range"=none) (ha:PA X [a,b] ta) (hs:starEach [a,b] X.env=[(false,eval a X.env),(false,eval b X.env)]:=by rfl) (hs2:starEach [b] X.env=[(false,eval b X.env)]:=by rfl) :
  PI X tg (.Call (.Name "range" p) [a,b] [] pos) (iRng2 ta):=by
 intro pins s σ H R I h
 refine Call_ (cQ' I hg hm boot_range (PyProof.Rows.callWith_type1 (thn (ha pos pins s σ H _ I h) fun us s1 ⟨vs,H1,I1,r1,q1⟩=>?_) (by rw [hs,hs2]) (by rw [hs2];rfl)))
 obtain ⟨i,j,e,⟨q1,q2,q3,q4⟩,q⟩:=q1
 subst e
 cases r1 with
 | cons r rr =>
  cases rr with
  | cons r' rr =>
   cases rr
   obtain ⟨t,rfl⟩:=r
   obtain ⟨t',rfl⟩:=r'
   exact call_range_2 (k3' I1 q1 q2 q3 q4 q)
def tFor (wi:TI) (g:TG) (tb:TS):TS:=fun D σ H=>wi σ H fun J H1=>∃ W:Nat->Nat->St->Hp->Prop,(∃ m,W 0 m σ H1)/\∀ i m σ H,W i m σ H →
 (J.stop i H/\D.nx σ H)\/(J.go i H/\∃ N:St->Hp->Prop,(∀ σ' H',N σ' H'->∃ m',m' < m/\W (i+1) m' σ' H')/\∀ x H',J.yld i H x H'->g x σ H' fun σ2 H2=>tb { D with nx:=N,ct:=N,bk:=D.nx } σ2 H2)
def pinsAt (fp:List Addr) (h:Heap):List (Addr×Obj):=fp.filterMap fun b=>(h.get? b).map fun o=>(b,o)
theorem eO' {fp:List Addr}{h:Heap}{b:Addr}{o:Obj} (hb:b∈fp) (e:h.get? b=some o):(b,o)∈pinsAt fp h:=List.mem_filterMap.mpr ⟨b,hb,by rw [e];rfl⟩
theorem oW' {fp:List Addr}{h:Heap}{p:Addr×Obj} (hp:p∈pinsAt fp h):p.1∈fp/\h.get? p.1=some p.2:=by
 obtain ⟨b,hb,e⟩:=List.mem_filterMap.mp hp
 cases q:h.get? b with
 | none=>rw [q] at e;cases e
 | some o =>
  rw [q] at e
  have e':(b,o)=p:=Option.some.inj e
  subst e'
  exact ⟨hb,q⟩
theorem Inv.pinned {pins:List (Addr×Obj)}{σ:St}{H:Hp}{s:Shared}{fp:List Addr} (I:Inv X pins σ H s) (hf:∀ b∈fp,FpOk X pins H b) (ho:∀ b∈fp,∃ o,s.heap.get? b=some o/\∀ v,o.data≠.cell v):Inv X (pins++pinsAt fp s.heap) σ H s :=
 I.pins_of fun p hp=>(List.mem_append.mp hp).elim (fun z=>I.pin p (List.mem_append_right _ z)) fun z=>by
  obtain ⟨hb,e⟩:=oW' z
  obtain ⟨f0,f1,f2,_⟩:=hf p.1 hb
  obtain ⟨o,e',d⟩:=ho p.1 hb
  rw [e] at e';cases e'
  exact ⟨e,f0,f1,f2,d⟩
theorem Inv.unpinned {pins pl:List (Addr×Obj)}{σ:St}{H:Hp}{s:Shared} (I:Inv X (pins++pl) σ H s):Inv X pins σ H s:=I.pins_of fun p hp=>I.pin p (List.mem_append_right _ (List.mem_append_left _ hp))
theorem sP' {iter:Expr}{body:List Stmt}{wi:TI}{g:TG}{tb:TS}{pos:Pos} (hp:PassesOwn (model X.prog X.w) X.A X.env X.xe) (hc:X.calm=true) (hi:PI X tg iter wi) (hg:PG X tg g) (hb:PSs X body tb)
  (hs:∀ x,foldedSetIterable iter X.env x=pure x:=by intro _;rfl):PS X (.For tg iter body [] pos) (tFor wi g tb):=by
 intro pins s σ H D I h
 refine wpAny_For (thn (hi pins s σ H _ I h) fun v s1 h1=>thn h1 fun itv s2 h2=>?_) hs
 obtain ⟨it,fp,tn,J,H2,e,I2,T,st2,f2,W,⟨m0,w0⟩,turn⟩:=h2
 subst e
 -- what stays true of the iterator's objects through the loop
 have stat:∀ {H':Hp},(∀ b∈fp,H' b=none)->∀ b∈fp,FpOk X pins H' b:=fun hn b hb=>⟨hn b hb,(f2 b hb).2⟩
 refine codeAny_forLoop_any (fun n s'=>∃ i σ' H',Inv X pins σ' H' s'/\tn i s'.heap/\(∀ b∈fp,H' b=none)/\W i n σ' H') ?_ m0 ⟨0,σ,H2,I2,st2,fun b hb=>(f2 b hb).1,w0⟩
 rintro n s3 ⟨i,σ3,H3,I3,st3,fr3,w3⟩
 rcases turn i n σ3 H3 w3 with ⟨stop,qn⟩ | ⟨go,N,hN,step⟩
 ·refine wpAny_passesOwn hp (thn (T.done X rfl rfl rfl hc i pins s3 σ3 H3 X.xe I3 (stat fr3) st3 stop) fun r s4 ⟨hr,I4⟩=>?_)
  subst hr
  exact wpAny_execs_nil ⟨σ3,H3,I4,qn⟩
 ·refine wpAny_passesOwn hp (thn (T.item X rfl rfl rfl hc i pins s3 σ3 H3 X.xe I3 (stat fr3) st3 go) fun r s4 ⟨u,hr,h4⟩=>?_)
  subst hr
  refine wpAny_passesOwn hp (thn h4 fun _ s5 ⟨x,H5,I5,r5,y5,st5,fr5⟩=>?_)
  have I5':=I5.pinned (stat fr5) (T.obj _ _ st5)
  refine wpAny_passesOwn hp (thn (hg _ s5 σ3 H5 x u _ I5' r5 (step x H5 y5)) fun _ s6 ⟨σ6,H6,I6,q6⟩=>?_)
  refine wpAny_passesOwn hp (thn (hb _ s6 σ6 H6 _ I6 q6) fun f s7 q7=>?_)
  have again:∀ {σ7:St}{H7:Hp},Inv X (pins++pinsAt fp s5.heap) σ7 H7 s7->N σ7 H7->∃ m,m < n/\∃ i σ' H',Inv X pins σ' H' s7/\tn i s7.heap/\(∀ b∈fp,H' b=none)/\W i m σ' H':=fun {σ7 H7} I7 n7=>by
   obtain ⟨m',hm,w7⟩:=hN σ7 H7 n7
   refine ⟨m',hm,i+1,σ7,H7,I7.unpinned,T.keep _ _ _ st5 fun b hb o e=>(I7.pin (b,o) (List.mem_append_right _ (List.mem_append_right _ (eO' hb e)))).1,fun b hb=>?_,w7⟩
   obtain ⟨o,e,d⟩:=T.obj _ _ st5 b hb
   exact (I7.pin (b,o) (List.mem_append_right _ (List.mem_append_right _ (eO' hb e)))).2.1
  cases f with
  | next=>obtain ⟨σ7,H7,I7,n7⟩:=q7;exact again I7 n7
  | cont=>obtain ⟨σ7,H7,I7,n7⟩:=q7;exact again I7 n7
  | brk=>obtain ⟨σ7,H7,I7,q7⟩:=q7;exact ⟨σ7,H7,I7.unpinned,q7⟩
  | ret v=>obtain ⟨x7,σ7,H7,I7,r7,q7⟩:=q7;exact ⟨x7,σ7,H7,I7.unpinned,r7,q7⟩
end
end L2
namespace L2
open PySem PySem.Spec PyProof.Rows
abbrev R2:=V->V->Hp->VK->Prop
def OpR (X:Cx) (f:Value->Value->Sem Value) (r:R2):Prop :=
 ∀ (pins:List (Addr×Obj)) (s:Shared) (σ:St) (H:Hp) (x y:V) (v u:Value) (Q:VK),Inv X pins σ H s->RelV x v->RelV y u->r x y H Q →
  wpAny (model X.prog X.w) X.A (f v u) (EP X pins σ Q) X.xe s
def UnR (X:Cx) (f:Value->Sem Value) (r:V->Hp->VK->Prop):Prop :=
 ∀ (pins:List (Addr×Obj)) (s:Shared) (σ:St) (H:Hp) (x:V) (v:Value) (Q:VK),Inv X pins σ H s->RelV x v->r x H Q →
  wpAny (model X.prog X.w) X.A (f v) (EP X pins σ Q) X.xe s
def CallR (X:Cx) (f:Value) (r:List V->Hp->VK->Prop):Prop :=
 ∀ (pins:List (Addr×Obj)) (s:Shared) (σ:St) (H:Hp) (xs:List V) (us:List Value) (Q:VK),Inv X pins σ H s->Vals xs us->r xs H Q →
  wpAny (model X.prog X.w) X.A (call f us) (EP X pins σ Q) X.xe s
def tOp (r:R2) (ta tb:TE):TE:=fun σ H Q=>ta σ H fun x H1=>tb σ H1 fun y H2=>r x y H2 Q
def tUn (r:V->Hp->VK->Prop) (ta:TE):TE:=fun σ H Q=>ta σ H fun x H1=>r x H1 Q
def rI (C:Int->Int->Prop) (g:Int->Int->V):R2:=fun x y H Q=>∃ i j,x=.int i/\y=.int j/\C i j/\Q (g i j) H
def rI0 (g:Int->Int->V):R2:=fun x y H Q=>∃ i j,x=.int i/\y=.int j/\Q (g i j) H
def rU (g:Int->V):V->Hp->VK->Prop:=fun x H Q=>∃ i,x=.int i/\Q (g i) H
section
variable {X:Cx}{a b c:Expr}{ta tb tc:TE}{pos:Pos}
theorem binT (ha:PE X a ta) (hb:PE X b tb){pins:List (Addr×Obj)}{s:Shared}{σ:St}{H:Hp}{R:V->V->Hp->Prop} (I:Inv X pins σ H s)
  (h:ta σ H fun x H1=>tb σ H1 fun y H2=>R x y H2){Q:Value->Shared->Prop}{f:Value->Value->Sem Value}
  (hf:∀ v u s2 x y H2,Inv X pins σ H2 s2->RelV x v->RelV y u->R x y H2->wpAny (model X.prog X.w) X.A (f v u) Q X.xe s2) :
  wpAny (model X.prog X.w) X.A (eval a X.env) (fun v s₁=>wpAny (model X.prog X.w) X.A (eval b X.env) (fun u s₂=>wpAny (model X.prog X.w) X.A (f v u) Q X.xe s₂) X.xe s₁) X.xe s:=by
 refine thn (ha pins s σ H _ I h) fun v s1 ⟨x,H1,I1,r1,q1⟩=>?_
 refine thn (hb pins s1 σ H1 _ I1 q1) fun u s2 ⟨y,H2,I2,r2,q2⟩=>?_
 exact hf v u s2 x y H2 I2 r1 r2 q2
theorem ri' {op:Operator}{r:R2} (ho:OpR X (binaryOp op) r) (ha:PE X a ta) (hb:PE X b tb):PE X (.BinOp a op b pos) (tOp r ta tb):=by
 intro pins s σ H Q I h
 exact wpAny_BinOp (binT ha hb I h fun v u s2 x y H2 I2 rx ry q=>ho pins s2 σ H2 x y v u Q I2 rx ry q)
theorem t1' {op:UnaryOp}{r:V->Hp->VK->Prop} (ho:UnR X (unaryOp op) r) (ha:PE X a ta):PE X (.UnaryOp op a pos) (tUn r ta):=by
 intro pins s σ H Q I h
 exact UnaryOp_ (thn (ha pins s σ H _ I h) fun v s1 ⟨x,H1,I1,r1,q1⟩=>ho pins s1 σ H1 x v Q I1 r1 q1)
theorem opI {f:Value->Value->Sem Value}{C:Int->Int->Prop}{g:Int->Int->Int}
  (rule:∀ (i j:Int) (t u:Tok) (s:Shared) (Q:Value->Shared->Prop) (E:Value->Shared->Prop),C i j->Q (.int (g i j) s.toks) { s with toks:=s.toks+1 }->wpAny (model X.prog X.w) X.A (f (.int i t) (.int j u)) Q E s) :
  OpR X f (rI C fun i j=>.int (g i j)):=by
 intro pins s σ H x y v u Q I rx ry h
 obtain ⟨i,j,rfl,rfl,hc,q⟩:=h
 obtain ⟨t,rfl⟩:=rx
 obtain ⟨t',rfl⟩:=ry
 exact rule i j t t' s _ _ hc ⟨.int (g i j),H,I.tok _,⟨_,rfl⟩,q⟩
theorem opI0 {f:Value->Value->Sem Value}{g:Int->Int->Int}
  (rule:∀ (i j:Int) (t u:Tok) (s:Shared) (Q:Value->Shared->Prop) (E:Value->Shared->Prop),Q (.int (g i j) s.toks) { s with toks:=s.toks+1 }->wpAny (model X.prog X.w) X.A (f (.int i t) (.int j u)) Q E s) :
  OpR X f (rI0 fun i j=>.int (g i j)):=by
 intro pins s σ H x y v u Q I rx ry h
 obtain ⟨i,j,rfl,rfl,q⟩:=h
 obtain ⟨t,rfl⟩:=rx
 obtain ⟨t',rfl⟩:=ry
 exact rule i j t t' s _ _ ⟨.int (g i j),H,I.tok _,⟨_,rfl⟩,q⟩
theorem opB0 {f:Value->Value->Sem Value}{g:Int->Int->Bool}
  (rule:∀ (i j:Int) (t u:Tok) (s:Shared) (Q:Value->Shared->Prop) (E:Value->Shared->Prop),Q (.bool (g i j)) s->wpAny (model X.prog X.w) X.A (f (.int i t) (.int j u)) Q E s) :
  OpR X f (rI0 fun i j=>.bl (g i j)):=by
 intro pins s σ H x y v u Q I rx ry h
 obtain ⟨i,j,rfl,rfl,q⟩:=h
 obtain ⟨t,rfl⟩:=rx
 obtain ⟨t',rfl⟩:=ry
 exact rule i j t t' s _ _ ⟨.bl (g i j),H,I,rfl,q⟩
def CPow (i j:Int):Prop:=0<=j/\j<=1000000/\i.natAbs < 2 ^ 64
def CMul (i j:Int):Prop:=(-(2 ^ 64) < i/\i < 2 ^ 64)\/(-(2 ^ 64) < j/\j < 2 ^ 64)
theorem CMul.ok {i j:Int} (h:CMul i j):IntMulOk i j:=by
 rcases h with ⟨h1,h2⟩ | ⟨h1,h2⟩
 ·exact .of_left (intBits_le_64 h1 h2)
 ·exact .of_right (intBits_le_64 h1 h2)
theorem sQ':OpR X (binaryOp .Add) (rI0 fun i j=>.int (i+j)):=opI0 fun _ _ _ _ _ _ _ q=>add_int q
theorem sR':OpR X (binaryOp .Sub) (rI0 fun i j=>.int (i - j)):=opI0 fun _ _ _ _ _ _ _ q=>sub_int q
theorem sS':OpR X (binaryOp .Mult) (rI CMul fun i j=>.int (i*j)):=opI fun _ _ _ _ _ _ _ hc q=>mul_int q hc.ok
theorem sT':OpR X (binaryOp .Mod) (rI (fun _ j=>0 < j) fun i j=>.int (i % j)):=opI fun i j _ _ _ _ _ hc q=>by
 have h1:(0:Int) < j:=hc
 exact mod_int' (by omega) (by rw [Int.fmod_eq_emod_of_nonneg i (by omega)];exact q)
theorem sU':OpR X (binaryOp .Pow) (rI CPow fun i j=>.int (i ^ j.toNat)):=opI fun _ _ _ _ _ _ _ hc q=>pow_int_small hc.1 hc.2.1 hc.2.2 q
theorem unI {f:Value->Sem Value}{g:Int->Int}
  (rule:∀ (i:Int) (t:Tok) (s:Shared) (Q:Value->Shared->Prop) (E:Value->Shared->Prop),Q (.int (g i) s.toks) { s with toks:=s.toks+1 }->wpAny (model X.prog X.w) X.A (f (.int i t)) Q E s) :
  UnR X f (rU fun i=>.int (g i)):=by
 intro pins s σ H x v Q I rx h
 obtain ⟨i,rfl,q⟩:=h
 obtain ⟨t,rfl⟩:=rx
 exact rule i t s _ _ ⟨.int (g i),H,I.tok _,⟨_,rfl⟩,q⟩
theorem sV':UnR X (unaryOp .USub) (rU fun i=>.int (-i)):=unI fun _ _ _ _ _ q=>neg_int q
end
section
variable {X:Cx}{a b c:Expr}{ta tb tc:TE}{pos:Pos}
theorem oX' {pins:List (Addr×Obj)}{σ:St}{H:Hp}{s:Shared}{Q:VK}{k k':Bool} (I:Inv X pins σ H s) (q:Q (.bl k) H) (e:k=k'):EP X pins σ Q (.bool k') s:=by
 subst e
 exact ⟨.bl k,H,I,rfl,q⟩
theorem rj':OpR X (compareOp .Lt) (rI0 fun i j=>.bl (decide (i < j))):=opB0 fun _ _ _ _ _ _ _ q=>lt_int q
theorem rk':OpR X (compareOp .LtE) (rI0 fun i j=>.bl (decide (i<=j))):=opB0 fun _ _ _ _ _ _ _ q=>le_int q
theorem t2':OpR X (compareOp .Gt) (rI0 fun i j=>.bl (decide (j < i))):=opB0 fun _ _ _ _ _ _ _ q=>gt_int q
theorem t3':OpR X (compareOp .GtE) (rI0 fun i j=>.bl (decide (j<=i))):=opB0 fun _ _ _ _ _ _ _ q=>ge_int q
theorem oY':OpR X (compareOp .Is) (fun x y H Q=>y=.non/\Q (.bl (decide (x=.non))) H):=by
 intro pins s σ H x y v u Q I rx ry h
 obtain ⟨rfl,q⟩:=h
 cases ry
 refine is_none_gen (oX' I q ?_)
 cases x<;>first
  | (cases rx;rfl)
  | (obtain ⟨t,rfl⟩:=rx;rfl)
theorem rJ':OpR X (compareOp .IsNot) (fun x y H Q=>y=.non/\Q (.bl (!decide (x=.non))) H):=by
 intro pins s σ H x y v u Q I rx ry h
 obtain ⟨rfl,q⟩:=h
 cases ry
 refine isnot_none_gen (oX' I q ?_)
 cases x<;>first
  | (cases rx;rfl)
  | (obtain ⟨t,rfl⟩:=rx;rfl)
theorem OpR.or {f:Value->Value->Sem Value}{r r':R2} (h:OpR X f r) (h':OpR X f r'):OpR X f (fun x y H Q=>r x y H Q\/r' x y H Q):=by
 intro pins s σ H x y v u Q I rx ry q
 rcases q with q | q
 ·exact h pins s σ H x y v u Q I rx ry q
 ·exact h' pins s σ H x y v u Q I rx ry q
theorem nomark (b:Expr){op:CmpOp} (h:op≠.In:=by decide) (h2:op≠.NotIn:=by decide):behindInMarks op b=false:=by
 have e1:(op == CmpOp.In)=false:=by cases op<;>first | rfl | exact absurd rfl h
 have e2:(op == CmpOp.NotIn)=false:=by cases op<;>first | rfl | exact absurd rfl h2
 cases b<;>simp [behindInMarks,e1,e2]
theorem rK' {op:CmpOp}{r:R2} (ho:OpR X (compareOp op) r) (ha:PE X a ta) (hb:PE X b tb) (hm:behindInMarks op b=false):PE X (.Compare a [op] [b] pos) (tOp r ta tb):=by
 intro pins s σ H Q I h
 exact wpAny_Compare1 (binT ha hb I h fun v u s2 x y H2 I2 rx ry q=>ho pins s2 σ H2 x y v u Q I2 rx ry q) hm
def tTest (t:TE):TT:=fun σ H Q=>t σ H fun x H'=>∃ k,x=.bl k/\Q k H'
theorem je' {op:CmpOp}{r:R2} (ho:OpR X (compareOp op) r) (ha:PE X a ta) (hb:PE X b tb) (hm:behindInMarks op b=false):PT X (.Compare a [op] [b] pos) (tTest (tOp r ta tb)):=by
 intro pins s σ H Q I h
 refine wpAny_isTrue_Compare1 (thn (ha pins s σ H _ I h) fun v s1 ⟨x,H1,I1,r1,q1⟩=>thn (hb pins s1 σ H1 _ I1 q1) fun u s2 ⟨y,H2,I2,r2,q2⟩ =>
  thn (ho pins s2 σ H2 x y v u _ I2 r1 r2 q2) fun c s3 ⟨z,H3,I3,r3,k,e,q3⟩=>?_) hm
 subst e
 cases r3
 exact wpAny_truthy_bool ⟨H3,I3,q3⟩
def tChain (r r':R2) (ta tb tc:TE):TE:=fun σ H Q=>ta σ H fun x H1=>tb σ H1 fun y H2=>r x y H2 fun z H3=>∃ k,z=.bl k ∧
 (if k=true then tc σ H3 fun w' H4=>r' y w' H4 Q else Q (.bl false) H3)
theorem qt' {op op':CmpOp}{r r':R2} (ho:OpR X (compareOp op) r) (ho':OpR X (compareOp op') r') (ha:PE X a ta) (hb:PE X b tb) (hc:PE X c tc)
  (hm:lastMarks [op,op'] [b,c]=false:=by with_unfolding_all rfl):PT X (.Compare a [op,op'] [b,c] pos) (tTest (tChain r r' ta tb tc)):=by
 intro pins s σ H Q I h
 refine isTrue_chain (thn (ha pins s σ H _ I h) fun v s1 ⟨x,H1,I1,r1,q1⟩=>test_link (thn (hb pins s1 σ H1 _ I1 q1) fun u s2 ⟨y,H2,I2,r2,q2⟩ =>
  thn (ho pins s2 σ H2 x y v u _ I2 r1 r2 q2) fun d s3 ⟨z,H3,I3,r3,k,e,q3⟩=>?_)) hm
 subst e
 cases r3
 refine wpAny_truthy_bool ?_
 cases k with
 | false =>
  obtain ⟨k',e',q'⟩:=q3
  cases e'
  exact ite_ff ⟨H3,I3,q'⟩
 | true =>
  refine ite_tt (test_last (thn (hc pins s3 σ H3 _ I3 q3) fun w' s4 ⟨z',H4,I4,r4,q4⟩=>thn (ho' pins s4 σ H4 y z' u w' _ I4 r2 r4 q4) fun d' s5 ⟨z2,H5,I5,r5,k2,e2,q5⟩=>?_))
  subst e2
  cases r5
  exact wpAny_truthy_bool ⟨H5,I5,q5⟩
theorem line63:(sizeLine:Nat) < 2 ^ 63:=by rw [sizeLine_eq];decide
theorem nT':OpR X (binaryOp .Add) (fun x y H Q=>∃ i j,x=.str i/\y=.str j/\i.length+j.length<=sizeLine/\Q (.str (i++j)) H):=by
 intro pins s σ H x y v u Q I rx ry h
 obtain ⟨i,j,rfl,rfl,hz,q⟩:=h
 obtain ⟨t,rfl⟩:=rx
 obtain ⟨t',rfl⟩:=ry
 exact add_str (fun t' tk=>⟨.str (i++j),H,I.tok _,⟨_,rfl⟩,q⟩) hz
theorem vals1 {x:V}{us:List Value} (r:Vals [x] us):∃ u,us=[u]/\RelV x u:=by
 cases r with
 | cons r1 r2=>cases r2;exact ⟨_,rfl,r1⟩
theorem vals2 {x y:V}{us:List Value} (r:Vals [x,y] us):∃ u w',us=[u,w']/\RelV x u/\RelV y w':=by
 cases r with
 | cons r1 r2 =>
  cases r2 with
  | cons r3 r4=>cases r4;exact ⟨_,_,rfl,r1,r3⟩
theorem oZ' (hc:X.calm=true):CallR X (.builtin "max") (fun xs H Q=>∃ i j,xs=[.int i,.int j]/\Q (.int (if j > i then j else i)) H):=by
 intro pins s σ H xs us Q I r h
 obtain ⟨i,j,rfl,q⟩:=h
 obtain ⟨u,w',rfl,⟨t,rfl⟩,⟨t',rfl⟩⟩:=vals2 r
 refine max_two_ints (I.ok.hd hc) fun h' tk k=>⟨_,H,I.kept k,?_,q⟩
 by_cases hj:j > i
 ·rw [if_pos hj,if_pos hj];exact ⟨_,rfl⟩
 ·rw [if_neg hj,if_neg hj];exact ⟨_,rfl⟩
theorem o0' (hc:X.calm=true):CallR X (.builtin "min") (fun xs H Q=>∃ i j,xs=[.int i,.int j]/\Q (.int (if j < i then j else i)) H):=by
 intro pins s σ H xs us Q I r h
 obtain ⟨i,j,rfl,q⟩:=h
 obtain ⟨u,w',rfl,⟨t,rfl⟩,⟨t',rfl⟩⟩:=vals2 r
 refine min_two_ints (I.ok.hd hc) fun h' tk k=>⟨_,H,I.kept k,?_,q⟩
 by_cases hj:j < i
 ·rw [if_pos hj,if_pos hj];exact ⟨_,rfl⟩
 ·rw [if_neg hj,if_neg hj];exact ⟨_,rfl⟩
end
end L2
namespace L2
open PySem PySem.Spec PyProof.Rows
structure ObjM (h:Heap) (x dx C:Addr) (mA:Str->Option Value):Prop where
 obj:h.get? x=some (PySem.W.instObj C dx)
 ns:h.Ns1 dx mA
 ne:dx≠x
section
variable {prog:Program}{w:World}{A:Around}{E:Value->Shared->Prop}{s:Shared}{K:PySem.W.Frag}{x dx C f:Addr}{mA:Str->Option Value}{name:Str}{v:Value}
end
section
variable {P:Program}{w:World}{H H':Hp}{h h':Heap}{a C dx:Addr}{fs fs':List (Str×V)}
end
structure Cls (K:PySem.W.Frag) (C:Addr):Prop where
 pg:PySem.W.plainGet K C Str.empty=true
 hd:PySem.W.hasDictIn K C=true
 po:PySem.W.plainOver K C=true
 sa:PySem.W.findIn K (.ref C) "__setattr__"=some (some (.builtin "object.__setattr__"))
structure Con (K:PySem.W.Frag) (C:Addr) (f:Str) (v:V) (u:Value):Prop where
 at_:PySem.W.findIn K (.ref C) f=some (some u)
 rel:RelV v u
 get:PySem.W.specialIn K u "__get__"=some none
 cp:PySem.W.copiedNames.contains f=false
structure Meth (K:PySem.W.Frag) (C:Addr) (m:Str) (f:Addr):Prop where
 at_:PySem.W.findIn K (.ref C) m=some (some (.ref f))
 fn:PySem.W.isFn K (.ref f)=true
 kp:PySem.W.keepIn K (.ref f)=true
section
variable {X:Cx}{pins:List (Addr×Obj)}{σ:St}{H:Hp}{s:Shared}{a C dx:Addr}{fs:List (Str×V)}{f:Str}{v:V}{A:Around}{E:Value->Shared->Prop}
end
section
variable {X:Cx}{o e value:Expr}{f:Str}{pos pos' tpos:Pos}{ta tv:TE}
end
section
variable {X:Cx}{pins:List (Addr×Obj)}{σ:St}{H:Hp}{s:Shared}{A:Around}{E:Value->Shared->Prop}{Q:Value->Shared->Prop}{c:Value}{b:Bool}
inductive TyOf (K:PySem.W.Frag) (H:Hp):V->Value->Prop where
 | non:TyOf K H .non (.type "NoneType")
 | bl (x:Bool):TyOf K H (.bl x) (.type "bool")
 | int (i:Int):TyOf K H (.int i) (.type "int")
 | str (x:Str):TyOf K H (.str x) (.type "str")
 | flt (x:UInt64):TyOf K H (.flt x) (.type "float")
 | lst {a:Addr}{xs:List V} (e:H a=some (.lst xs)):TyOf K H (.ref a) (.type "list")
 | frz {a:Addr}{o:Obj}{xs:List V} (e:H a=some (.frz o (.lst xs))):TyOf K H (.ref a) (.type "list")
 | tup {a:Addr}{xs:List V} (e:H a=some (.tup xs)):TyOf K H (.ref a) (.type "tuple")
 | dK {a:Addr}{kvs:List (Key×V)} (e:H a=some (.dK kvs)):TyOf K H (.ref a) (.type "dict")
 | dT {a:Addr}{kvs:List (List Key×V)} (e:H a=some (.dT kvs)):TyOf K H (.ref a) (.type "dict")
 | ins {a C dx:Addr}{fs:List (Str×V)} (e:H a=some (.ins C dx fs)) (cl:Cls K C) (ha:PySem.W.findIn K (.ref C) "__class__"=some (some (.builtin "object.__class__")))
   (hn:PySem.W.specialIn K (.builtin "object.__class__") "__get__"=some (some (.builtin "getset_descriptor.__get__"))) (htk:PySem.W.takesIn K (.builtin "object.__class__")=some true)
   (hm:PySem.W.mroIn K C (.type "object")=some true):TyOf K H (.ref a) (.ref C)
end
end L2
namespace L2
open PySem PySem.Spec PyProof.Rows
structure Room (k:Nat) (A:Around):Prop where
 hd:A.handled=none
 dp:A.depth+3*k+5 < recursionLimit
 un:A.units+16*k+200 < cLine
 gd:A.guards=some []
theorem Room.mono {j k:Nat}{A:Around} (r:Room k A) (h:j<=k):Room j A:=⟨r.hd,by have:=r.dp;omega,by have:=r.un;omega,r.gd⟩
theorem Room.deeper {k:Nat}{A:Around} (r:Room (k+1) A) (env:Env):Room k (A.deeper env) :=
 ⟨r.hd,by have:=r.dp;show A.depth+1+3*k+5 < _;omega,by have:=r.un;show A.units+3+16*k+200 < _;omega,r.gd⟩
theorem Room.depth {k:Nat}{A:Around} (r:Room k A):A.depth < recursionLimit:=by have:=r.dp;omega
def tNil:TA:=fun _ H Q=>Q [] H
def tCons (ta:TE) (tr:TA):TA:=fun σ H Q=>ta σ H fun x H1=>tr σ H1 fun xs H2=>Q (x::xs) H2
section
variable {X:Cx}{e:Expr}{es:List Expr}{te:TE}{t:TA}{pos:Pos}
theorem gG':PA X [] tNil:=fun _ _ _ _ H Q I h=>Calls.spliced_nil ⟨[],H,I,.nil,h⟩
theorem c3' (ha:PE X e te) (hr:PA X es t) (hs:starEach (e::es) X.env=(false,eval e X.env)::starEach es X.env:=by rfl):PA X (e::es) (tCons te t):=by
 intro pos pins s σ H Q I h
 rw [hs]
 show wpAny _ _ (spliced ((false,eval e X.env)::backTo pos (starEach es X.env))) _ _ s
 refine Calls.spliced_cons (thn (ha pins s σ H _ I h) fun u s1 ⟨x,H1,I1,r1,q1⟩=>?_)
 exact thn (hr pos pins s1 σ H1 _ I1 q1) fun us s2 ⟨xs,H2,I2,r2,q2⟩=>⟨x::xs,H2,I2,.cons r1 r2,q2⟩
def tTup (t:TA):TE:=fun σ H Q=>t σ H fun xs H1=>xs.length<=sizeLine/\∀ p,H1 p=none->Q (.ref p) (upd H1 p (.tup xs))
def tLst (t:TA):TE:=fun σ H Q=>t σ H fun xs H1=>xs.length<=sizeLine/\∀ p,H1 p=none->Q (.ref p) (upd H1 p (.lst xs))
theorem sW' {x1} (h:PA X es t):PE X (.Tuple es x1 pos) (tTup t):=by
 intro pins s σ H Q I hq
 refine wpAny_Tuple_spliced (thn (h pos pins s σ H _ I hq) fun us s1 ⟨xs,H1,I1,r,z,q⟩=>⟨by rw [← r.length];exact z,?_⟩)
 have hf:H1 s1.heap.objs.size=none:=I1.hok.fresh (Nat.le_refl _)
 refine ⟨.ref s1.heap.objs.size,upd H1 s1.heap.objs.size (.tup xs),I1.laid (t':=s1.toks) (fun b u e=>Heap.get?_push_of_some _ e) (Nat.le_refl _) ?_,rfl,q _ hf⟩
 exact ⟨z,us,r,⟨_,Heap.get?_push_size _ rfl,rfl,_,rfl⟩⟩
theorem sX' (h:PA X es t):PE X (.List es pos) (tLst t):=by
 intro pins s σ H Q I hq
 refine wpAny_List_spliced (thn (h pos pins s σ H _ I hq) fun us s1 ⟨xs,H1,I1,r,z,q⟩=>⟨by rw [← r.length];exact z,?_⟩)
 have hf:H1 s1.heap.objs.size=none:=I1.hok.fresh (Nat.le_refl _)
 refine ⟨.ref s1.heap.objs.size,upd H1 s1.heap.objs.size (.lst xs),I1.laid (t':=s1.toks) (fun b u e=>Heap.get?_push_of_some _ e) (Nat.le_refl _) ?_,rfl,q _ hf⟩
 exact ⟨z,us,0,r,Heap.get?_push_size _ rfl⟩
end
abbrev Sp:=List V->Hp->VK->XK->Prop
abbrev CXT:=List Env->Hp->Shared->XK->Value->Shared->Prop
structure Env0 (P:Program) (w:World) (K:PySem.W.Frag) (mg:Str->Option Value) (base:Heap) (A:Around) (outer:List Env) (s:Shared) (H:Hp):Prop where
 frames:A.frames=some outer
 mod:Mod K mg base
 bs:∀ b o,base.get? b=some o->s.heap.get? b=some o/\H b=none
 bsz:base.objs.size<=s.heap.objs.size
 funs:s.heap.FunFrames base outer
 frf:∀ b∈frs outer,H b=none
 hok:HOk P w H s.heap
 bare:AllBare s.gens
def CE (outer:List Env) (P:Program) (w:World) (H:Hp) (s:Shared) (Q:VK) (u:Value) (s':Shared):Prop :=
 ∃ v H',s'.os=s.os/\AllBare s'.gens/\Un (frs outer) [] H H' s.heap s'.heap/\HOk P w H' s'.heap/\RelV v u/\Q v H'
def CR (CX:CXT) (outer:List Env) (P:Program) (w:World) (H:Hp) (s:Shared) (Q:VK) (E:XK) (r:Result) (s':Shared):Prop :=
 match r with
 | .ok (.ret u)=>CE outer P w H s Q u s'
 | .ok _=>False
 | .error e=>CX outer H s E e s'
structure FnOk (P:Program) (w:World) (K:PySem.W.Frag) (mg:Str->Option Value) (base:Heap) (CX:CXT) (k:Nat) (f:Addr) (fd:FuncData) (ps:List Str) (sp:Sp):Prop where
 len:∀ vs H Q E,sp vs H Q E->vs.length=ps.length
 run:∀ (A:Around) (outer:List Env) (s:Shared) (H:Hp) (args:Args) (us:List Value) (vs:List V) (Q:VK) (E:XK),Room k A->Env0 P w K mg base A outer s H->BindsTo s fd args (ps.zip us)->Vals vs us->sp vs H Q E →
  codeAny (model P w) A (.call (.ref f) args) (CR CX outer P w H s Q E) s
section
variable {X:Cx}{pins:List (Addr×Obj)}{σ:St}{H:Hp}{s s':Shared}
theorem Inv.env0 (I:Inv X pins σ H s):Env0 X.prog X.w X.K X.mg X.base X.A X.stack s H :=
 ⟨I.ok.frames,I.ok.mod,I.bs,Nat.le_trans I.ok.bsz I.sz,I.stack,I.stkFree,I.hok,I.bare⟩
theorem Inv.after {Q:VK}{u:Value} (I:Inv X pins σ H s) (h:CE X.stack X.prog X.w H s Q u s'):EP X pins σ Q u s':=by
 obtain ⟨v,H',os,bare,un,hok,r,q⟩:=h
 obtain ⟨hh,g,d,t,os'⟩:=s'
 obtain rfl:os'=s.os:=os
 exact ⟨v,H',I.call (h':=hh) (g':=g) (d':=d) (t':=t) (ch:=[]) un hok bare (fun b z=>absurd z (by simp)),r,q⟩
end
def tCall (sp:Sp) (dvs:List V) (E:XK) (t:TA):TE:=fun σ H Q=>t σ H fun vs H1=>sp (vs++dvs) H1 Q E
def Binds (K:PySem.W.Frag) (fd:FuncData) (ps:List Str) (ds:List Value):Prop :=
 ∀ (s:Shared) (us:List Value),K.In s.heap->(us++ds).length=ps.length->BindsTo s fd ⟨us,[]⟩ (ps.zip (us++ds))
theorem Binds.all {K:PySem.W.Frag}{fd:FuncData}{ps:List Str} (h:∀ us:List Value,us.length=ps.length->bindArgs fd ⟨us,[]⟩=pure (ps.zip us)):Binds K fd ps []:=fun s us _ hl=>by
 rw [List.append_nil] at hl ⊢
 exact .of_eq (h us hl)
def Passes (CX:CXT) (X:Cx) (E:XK):Prop:=∀ (pins:List (Addr×Obj)) (σ:St) (H:Hp) (s:Shared) (e:Value) (s':Shared),Inv X pins σ H s->CX X.stack H s E e s'->X.xe e s'
section
variable {X:Cx}{CX:CXT}{k:Nat}{f C:Addr}{fd:FuncData}{ps:List Str}{sp:Sp}{dvs:List V}{ds:List Value}{E:XK}{x m:Str}{p pos apos:Pos}{e o:Expr}{es:List Expr}{ta:TE}{t:TA}
theorem sY' {pins:List (Addr×Obj)}{σ:St}{H:Hp}{s:Shared}{Q:VK}{us:List Value}{vs:List V} (F:FnOk X.prog X.w X.K X.mg X.base CX k f fd ps sp) (hr:Room k X.A) (hb:Binds X.K fd ps ds) (hd:Vals dvs ds) (hx:Passes CX X E)
  (I:Inv X pins σ H s) (r:Vals vs us) (h:sp (vs++dvs) H Q E):wpAny (model X.prog X.w) X.A (call (.ref f) us) (EP X pins σ Q) X.xe s:=by
 have r2:Vals (vs++dvs) (us++ds):=r.append hd
 have hl:(us++ds).length=ps.length:=by rw [← r2.length];exact F.len _ _ _ _ h
 refine wpAny_call (codeAny_mono (F.run X.A X.stack s H ⟨us,[]⟩ (us++ds) (vs++dvs) Q E hr I.env0 (hb s us I.kIn hl) r2 h) fun r s' hq=>?_)
 cases r with
 | error e=>exact hx pins σ H s e s' I hq
 | ok fl =>
  cases fl with
  | ret u=>exact I.after hq
  | next=>exact False.elim hq
  | brk=>exact False.elim hq
  | cont=>exact False.elim hq
theorem f0' (F:FnOk X.prog X.w X.K X.mg X.base CX k f fd ps sp) (hr:Room k X.A) (hg:Gl X x) (hm:X.mg x=some (.ref f)) (hk:PySem.W.keepIn X.K (.ref f)=true) (hb:Binds X.K fd ps ds) (hd:Vals dvs ds) (hx:Passes CX X E)
  (ha:PA X (e::es) t) (hdb:(x == ("__debug__":Str))=false:=by decide) (he:starEach (e::es) X.env=(false,eval e X.env)::starEach es X.env:=by rfl) (hpl:(backTo pos (starEach es X.env)).any (·.1)=false:=by rfl) :
  PE X (.Call (.Name x p) (e::es) [] pos) (tCall sp dvs E t):=by
 intro pins s σ H Q I h
 refine wpAny_Call_Name_kw (rC' I hg hm ?_ hdb)
 refine PySem.W.callWith_K (h₀:=X.base) I.ok.mod.kin hk (thn (ha pos pins s σ H _ I h) fun us s1 ⟨vs,H1,I1,r,q⟩=>⟨I1.kIn,?_⟩) he hpl
 exact sY' F hr hb hd hx I1 r q
structure Mk (K:PySem.W.Frag) (C f:Addr):Prop where
 makes:PySem.W.makesIn K C=true
 init:PySem.W.findIn K (.ref C) "__init__"=some (some (.ref f))
 fn:PySem.W.isFn K (.ref f)=true
 kp:PySem.W.keepIn K (.ref C)=true
end
section
variable {X:Cx}{CX:CXT}{k:Nat}{f C:Addr}{fd:FuncData}{ps ks:List Str}{sp:Sp}{E:XK}{x m:Str}{p pos apos kpos:Pos}{e o:Expr}{es:List Expr}{kws:List Keyword}{te ta:TE}{t tk:TA}{nm:Option Str}
structure KBinds (K:PySem.W.Frag) (fd:FuncData) (ps ks:List Str) (g:List Value->List Value->List Value) (gV:List V->List V->List V):Prop where
 to:∀ (s:Shared) (us ws:List Value),K.In s.heap->(g us ws).length=ps.length->BindsTo s fd ⟨us,ks.zip ws⟩ (ps.zip (g us ws))
 rel:∀ {vs:List V}{us:List Value}{zs:List V}{ws:List Value},Vals vs us->Vals zs ws->Vals (gV vs zs) (g us ws)
variable {g:List Value->List Value->List Value}{gV:List V->List V->List V}
end
structure FnScope (N P:List Str) (sc:Scope):Prop where
 kind:sc.kind=.function
 co:sc.isCoroutine=false
 gen:sc.isGenerator=false
 nd:N.Nodup
 pre:N.take P.length=P
 par:∀ x∈P,sc.names.lookup x=some .local\/sc.names.lookup x=some .cell
 nofree:∀ y∈sc.names,y.2≠.free
theorem jS' {kindOf:Str->Option NameKind}{x:Str}:∀ {binds:List (Str×Value)}{m:Str->Option Value},(∀ v,(x,v)∉binds)->bindL kindOf binds m x=m x
 | [],_,_=>rfl
 | (n,v)::r,m,h=>by
  unfold bindL
  rw [jS' fun w hw=>h w (List.mem_cons_of_mem _ hw)]
  split
  ·have:x≠n:=by rintro rfl;exact h v List.mem_cons_self
   simp [this]
  ·rfl
theorem jT' {kindOf:Str->Option NameKind}{x:Str}:∀ {binds:List (Str×Value)}{m:Str->Option Value},(∀ v,(x,v)∉binds)->bindC kindOf binds m x=m x
 | [],_,_=>rfl
 | (n,v)::r,m,h=>by
  unfold bindC
  rw [jT' fun w hw=>h w (List.mem_cons_of_mem _ hw)]
  split
  ·rfl
  ·have:x≠n:=by rintro rfl;exact h v List.mem_cons_self
   simp [this]
theorem jU' {kindOf:Str->Option NameKind}{x:Str}{v:Value}:∀ {P:List Str}{vs:List Value}{i:Nat}{m:Str->Option Value},P.Nodup->P[i]?=some x->vs[i]?=some v->kindOf x=some .local →
  bindL kindOf (P.zip vs) m x=some v
 | [],_,_,_,_,h,_,_=>by simp at h
 | _::_,[],_,_,_,_,h,_=>by simp at h
 | p::P,w::vs,0,m,nd,h1,h2,hk=>by
  simp at h1 h2;subst h1;subst h2
  show bindL kindOf ((p,w)::P.zip vs) m p=_
  unfold bindL
  rw [jS' fun v hv=>(List.nodup_cons.mp nd).1 (List.of_mem_zip hv).1,if_pos hk]
  simp
 | p::P,w::vs,i+1,m,nd,h1,h2,hk=>by
  show bindL kindOf ((p,w)::P.zip vs) m x=_
  unfold bindL
  exact jU' (i:=i) (List.nodup_cons.mp nd).2 (by simpa using h1) (by simpa using h2) hk
theorem jV' {kindOf:Str->Option NameKind}{x:Str}{v:Value}:∀ {P:List Str}{vs:List Value}{i:Nat}{m:Str->Option Value},P.Nodup->P[i]?=some x->vs[i]?=some v->kindOf x≠some .local →
  bindC kindOf (P.zip vs) m x=some v
 | [],_,_,_,_,h,_,_=>by simp at h
 | _::_,[],_,_,_,_,h,_=>by simp at h
 | p::P,w::vs,0,m,nd,h1,h2,hk=>by
  simp at h1 h2;subst h1;subst h2
  show bindC kindOf ((p,w)::P.zip vs) m p=_
  unfold bindC
  rw [jT' fun v hv=>(List.nodup_cons.mp nd).1 (List.of_mem_zip hv).1,if_neg hk]
  simp
 | p::P,w::vs,i+1,m,nd,h1,h2,hk=>by
  show bindC kindOf ((p,w)::P.zip vs) m x=_
  unfold bindC
  exact jV' (i:=i) (List.nodup_cons.mp nd).2 (by simpa using h1) (by simpa using h2) hk
def start (N:List Str) (vs:List V):St:=vs.map some++List.replicate (N.length - vs.length) none
def cxOf (CX:CXT) (P:Program) (w:World) (K:PySem.W.Frag) (mg:Str->Option Value) (base:Heap) (N:List Str) (qual:Str) (scope:Scope) (f:Addr) (cd:Value) (A:Around) (outer:List Env) (s:Shared) (H:Hp) (E:XK):Cx where
 prog:=P
 w:=w
 K:=K
 mg:=mg
 base:=base
 A:=A.deeper (envOfC qual scope s.heap.objs.size f cd)
 N:=N
 s₀:=s
 H₀:=H
 env:=envOfC qual scope s.heap.objs.size f cd
 outer:=outer
 stack:=envOfC qual scope s.heap.objs.size f cd::outer
 ex:=[]
 calm:=true
 fn:=fun _=>true
 pn:=[]
 xe:=fun e s'=>wpAny (model P w) (A.deeper (envOfC qual scope s.heap.objs.size f cd)) (leaving (envOfC qual scope s.heap.objs.size f cd) e) (fun _ s''=>CX outer H s E e s'') (fun e' s''=>CX outer H s E e' s'') s'
theorem k4' {sc:Scope}{n:Nat}{x:Str} (h:sc.names.lookup x=some .cell):∃ c,(cellsFrom n sc.names []).lookup x=some c:=by
 have q:=PySem.W.cellsFrom_some sc.names n [] (.inl h)
 exact Option.isSome_iff_exists.mp q
theorem o1' {CX:CXT}{P:Program}{w:World}{K:PySem.W.Frag}{mg:Str->Option Value}{base:Heap}{N ps:List Str}{qual:Str}{scope:Scope}{f:Addr}{cd:Value}{A:Around}{outer:List Env}{s s1:Shared}{H:Hp}{E:XK}{us:List Value}{vs:List V}
  (S:FnScope N ps scope) (hd:A.handled=none) (e0:Env0 P w K mg base A outer s H) (hl:vs.length=ps.length) (r:Vals vs us)
  (x:InCallC s s.heap.objs.size (bindL (envOfC qual scope s.heap.objs.size f cd).kindOf (ps.zip us) fun _=>none) (cellsFrom (s.heap.objs.size+1) scope.names []) (bindC (envOfC qual scope s.heap.objs.size f cd).kindOf (ps.zip us) fun _=>none) s1) :
  Inv (cxOf CX P w K mg base N qual scope f cd A outer s H E) [] (start N vs) H s1:=by
 have hpl:ps.length<=N.length:=by have:=congrArg List.length S.pre;rw [List.length_take] at this;omega
 obtain ⟨h1,tk,rfl,hk⟩:=x.done
 have noA:∀ b:Addr,b∉(cxOf CX P w K mg base N qual scope f cd A outer s H E).ex:=fun b z=>absurd (show b∈([]:List Addr) from z) (by simp)
 refine ⟨⟨e0.mod,S.kind,rfl,rfl,Nat.le_refl _,fun y z c h1 h2=>?_,fun y hy=>?_,fun y c _ h=>?_,fun _=>hd,Around.frames_deeper e0.frames,.inr ⟨rfl,rfl⟩,fun b z=>absurd z (noA b),e0.bs,e0.bsz,fun b _ _=>noA b,fun b z=>absurd z (noA b),e0.funs,e0.frf⟩,
  rfl,e0.bare,Un.kept hk,⟨_,x.toInCall.ns,fun i y v h1 h2 h3=>?_⟩,fun y c h=>⟨_,x.cell y c h⟩,e0.hok.fresh (Nat.le_refl _),fun y c h=>?_,fun p hp=>absurd (show p∈([]:List (Addr×Obj)) from hp) (by simp),e0.hok.kept hk,?_⟩
 ·exact name_of_addr x.apart (PySem.mem_of_lookup h1) (PySem.mem_of_lookup h2)
 ·have hy:scope.names.lookup y=some .cell\/scope.names.lookup y=some .free:=hy
  rcases hy with hy | hy
  ·exact k4' hy
  ·exact absurd rfl (S.nofree _ (PySem.mem_of_lookup hy))
 ·exact Nat.le_of_lt (x.above y c (PySem.mem_of_lookup h))
 ·have hi:i < vs.length:=by
   unfold start at h2
   by_cases hi:i < vs.length
   ·exact hi
   ·rw [List.getElem?_append_right (by simpa using hi)] at h2
    rw [List.getElem?_replicate] at h2
    split at h2<;>cases h2
  have ha:vs[i]?=some v:=by
   unfold start at h2
   rw [List.getElem?_append_left (by simpa using hi),List.getElem?_map] at h2
   cases e:vs[i]? with
   | none=>rw [e] at h2;cases h2
   | some a=>rw [e] at h2;cases h2;rfl
  obtain ⟨u,hu,rv⟩:=r.get ha
  have hp:ps[i]?=some y:=by
   rw [← S.pre,List.getElem?_take_of_lt (by omega)];exact h1
  have ndP:ps.Nodup:=by rw [← S.pre];exact S.nd.sublist (List.take_sublist _ _)
  refine ⟨u,rv,?_⟩
  rcases S.par y (List.mem_of_getElem? hp) with k | k
  ·exact .inl ⟨k,jU' ndP hp hu k⟩
  ·obtain ⟨c,e⟩:=k4' (n:=s.heap.objs.size+1) k
   refine .inr ⟨.inl k,c,e,?_⟩
   have q:=x.cell y c e
   rw [jV' ndP hp hu (by show scope.names.lookup y≠_;rw [k];decide)] at q
   exact q
 ·exact e0.hok.fresh (Nat.le_of_lt (x.above y c (PySem.mem_of_lookup h)))
 ·unfold start
  show _=N.length
  rw [List.length_append,List.length_map,List.length_replicate]
  omega
theorem t4' {CX:CXT}{P:Program}{w:World}{K:PySem.W.Frag}{mg:Str->Option Value}{base:Heap}{k:Nat}{f:Addr}{name qual:Str}{params:Arguments}{body:List Stmt}{scope:Scope}{dV kV doc pm cdv ct oc:Value}{an od:Option Addr}
  {osl:Array (Option Value)}{N ps:List Str}{sp:Sp} (lk:K.lookup f=some ⟨oc,od,.func (PySem.W.fnOf name qual params body scope dV kV doc pm an cdv ct),osl⟩) (hcd:PySem.W.codeIn K cdv qual=true) (S:FnScope N ps scope)
  (len:∀ vs H Q E,sp vs H Q E->vs.length=ps.length)
  (hbody:∀ (A:Around) (outer:List Env) (s:Shared) (H:Hp) (vs:List V) (Q:VK) (E:XK),Room k (A.deeper (envOfC qual scope s.heap.objs.size f cdv))->sp vs H Q E →
   ∃ t,PSs (cxOf CX P w K mg base N qual scope f cdv A outer s H E) body t/\t { nx:=fun _ H'=>Q .non H',rt:=Q } (start N vs) H) :
  FnOk P w K mg base CX (k+1) f (PySem.W.fnOf name qual params body scope dV kV doc pm an cdv ct) ps sp:=by
 refine ⟨len,fun A outer s H args us vs Q E hr e0 hb r hsp=>?_⟩
 have hl:=len _ _ _ _ hsp
 have KX:K.In s.heap:=e0.mod.kin.keeps fun b o e=>(e0.bs b o e).1
 have lim:s.heap.NoLimit:=e0.mod.nolimit.keeps fun b o e=>(e0.bs b o e).1
 have hkind:∀ y∈ps.zip us,scope.names.lookup y.1=some .local\/(scope.names.lookup y.1=some .cell/\((cellsFrom (s.heap.objs.size+1) scope.names []).lookup y.1).isSome=true):=fun ⟨n,v⟩ hy=>by
  rcases S.par n (List.of_mem_zip hy).1 with q | q
  ·exact .inl q
  ·exact .inr ⟨q,PySem.W.cellsFrom_some _ _ _ (.inl q)⟩
 refine codeAny_call_function hr.depth (KX _ _ lk) rfl S.co S.gen rfl (PySem.W.codeRec_of KX hcd) (hb _ _ _ _ ?_)
 refine wpAny_newFunctionEnv_cells S.kind hkind fun env he s1 x=>?_
 subst he
 refine ⟨lim.keeps x.toInCall.keep,codeAny_func ?_⟩
 obtain ⟨t,ht,hq⟩:=hbody A outer s H vs Q E (hr.deeper _) hsp
 have I:Inv (cxOf CX P w K mg base N qual scope f cdv A outer s H E) [] (start N vs) H s1:=o1' S hr.hd e0 hl r x
 refine wpAny_mono (ht [] s1 (start N vs) H _ I hq) (fun fl s' hs=>?_) fun e s' hs=>hs
 have fin:∀ {σ':St}{H':Hp}{v:V}{u:Value},Inv (cxOf CX P w K mg base N qual scope f cdv A outer s H E) [] σ' H' s'->RelV v u->Q v H'->CE outer P w H s Q u s' :=
  fun {σ' H' v u} J rv q=>⟨v,H',J.os,J.bare,J.base,J.hok,rv,q⟩
 cases fl with
 | ret u =>
  obtain ⟨v,σ',H',J,rv,q⟩:=hs
  exact fin J rv q
 | next =>
  obtain ⟨σ',H',J,q⟩:=hs
  exact fin (v:=V.non) (u:=Value.none) J rfl q
 | brk =>
  obtain ⟨_,_,_,q⟩:=hs
  exact False.elim q
 | cont =>
  obtain ⟨_,_,_,q⟩:=hs
  exact False.elim q
end L2
namespace L2
open PySem PySem.Spec PyProof.Rows
section
variable {X:Cx}{x:Str}{p pos:Pos}{e:Expr}{es:List Expr}{t:TA}{id T:String}{r:List V->Hp->VK->Prop}
def tCB (r:List V->Hp->VK->Prop) (t:TA):TE:=fun σ H Q=>t σ H fun vs H1=>r vs H1 Q
theorem gc' (hc:CallR X (.builtin id) r) (hg:Gl X x) (hm:X.mg x=none) (hv:bootBuiltins x=some (.builtin id)) (ha:PA X (e::es) t) (hn:x ≠ "__name__":=by decide) (hdb:(x == ("__debug__":Str))=false:=by decide)
  (he:starEach (e::es) X.env=(false,eval e X.env)::starEach es X.env:=by rfl) (hpl:(backTo pos (starEach es X.env)).any (·.1)=false:=by rfl):PE X (.Call (.Name x p) (e::es) [] pos) (tCB r t):=by
 intro pins s σ H Q I h
 refine wpAny_Call_Name_kw (cQ' I hg hm hv ?_ hn hdb)
 exact PyProof.Rows.callWith_builtin1 (thn (ha pos pins s σ H _ I h) fun us s1 ⟨vs,H1,I1,r1,q1⟩=>hc pins s1 σ H1 vs us Q I1 r1 q1) he hpl
theorem jW' (hc:CallR X (.type T) r) (hg:Gl X x) (hm:X.mg x=none) (hv:bootBuiltins x=some (.type T)) (ha:PA X (e::es) t) (hn:x ≠ "__name__":=by decide) (hdb:(x == ("__debug__":Str))=false:=by decide)
  (he:starEach (e::es) X.env=(false,eval e X.env)::starEach es X.env:=by rfl) (hpl:(backTo pos (starEach es X.env)).any (·.1)=false:=by rfl):PE X (.Call (.Name x p) (e::es) [] pos) (tCB r t):=by
 intro pins s σ H Q I h
 refine wpAny_Call_Name_kw (cQ' I hg hm hv ?_ hn hdb)
 exact PyProof.Rows.callWith_type1 (thn (ha pos pins s σ H _ I h) fun us s1 ⟨vs,H1,I1,r1,q1⟩=>hc pins s1 σ H1 vs us Q I1 r1 q1) he hpl
end
end L2
namespace HT
open PySem PyProof.Rows
section
open PySem.SeqAt
open PySem.AutoSeq1 (wpAny_loadPart')
open PySem.MeetsSeq PySem.MeetsSeq2 PySem.MeetsSeq3
end
section
variable {prog:Program}{w:World}{A:Around}{E:Value->Shared->Prop}{s:Shared}
theorem u7' {t b:Addr}{vs ws:List Value}{Q:Value->Shared->Prop} (ht:IsTup s.heap t vs.toArray) (hb:IsTup s.heap b ws.toArray) (hv:vs≠[])
  (h1:ws=[]->Q (.ref t) s) (h2:ws≠[]->Q (.ref s.heap.objs.size) { s with heap:=s.heap.push { cls:=.type "tuple", data:=.seq (vs++ws).toArray } })
  (hsz:vs.length+ws.length<=sizeLine):wpAny (model prog w) A (binaryOp .Add (.ref t) (.ref b)) Q E s:=by
 obtain ⟨⟨cls,dd,data,sl⟩,ho,hc,n,hd⟩:=id ht
 obtain ⟨⟨cls2,dd2,data2,sl2⟩,ho2,hc2,n2,hd2⟩:=id hb
 simp only at hc hd hc2 hd2
 subst hc hd hc2 hd2
 have e:vs.toArray++ws.toArray=(vs++ws).toArray:=by simp
 by_cases hw:ws=[]
 ·exact concat_meets ⟨_,ho,rfl⟩ ⟨_,ho2,rfl⟩ noFill_tuple_add seq_tuple_add PySem.F.slot_tuple_add PySem.F.entry_tuple_add (PySem.F.args_tuple_add_2 _ _)
   (tuple_addW1 t b vs.toArray ws.toArray n n2 dd dd2 sl sl2 (by simpa using hv) (by simp [hw])) ⟨ho,ho2,h1 hw⟩
 ·refine concat_meets ⟨_,ho,rfl⟩ ⟨_,ho2,rfl⟩ noFill_tuple_add seq_tuple_add PySem.F.slot_tuple_add PySem.F.entry_tuple_add (PySem.F.args_tuple_add_2 _ _)
   (tuple_addW2 t b vs.toArray ws.toArray n n2 dd dd2 sl sl2 (by simpa using hv) (by simpa using hw) (by rw [List.size_toArray,List.size_toArray];exact hsz)) ⟨ho,ho2,?_⟩
  rw [e]
  exact h2 hw
def sIx (n d:Nat):Option Int->Nat
 | none=>d
 | some v=>if v < 0 then (v+(n:Int)).toNat else min v.toNat n
theorem uY' (n d:Nat):sIx n d none=d:=rfl
theorem sZ' (n d:Nat) (hd:d<=n) (o:Option Int):sIx n d o<=n:=by
 cases o with
 | none=>exact hd
 | some v =>
  show (if v < 0 then (v+(n:Int)).toNat else min v.toNat n)<=n
  by_cases hv:v < 0
  ·rw [if_pos hv];omega
  ·rw [if_neg hv];exact Nat.min_le_right _ _
theorem na' (v:Int) (n d:Nat):(if v < 0 then max (v+(n:Int)) 0 else min v (n:Int))=((sIx n d (some v):Nat):Int):=by
 show (if v < 0 then max (v+(n:Int)) 0 else min v (n:Int))=(((if v < 0 then (v+(n:Int)).toNat else min v.toNat n):Nat):Int)
 by_cases hv:v < 0
 ·simp only [if_pos hv];omega
 ·simp only [if_neg hv];omega
theorem nU' (lo hi:Option Int) (n:Nat):Builtin.Slice.sliceAdjust lo hi 1 (n:Int)=(((sIx n 0 lo:Nat):Int),((sIx n n hi:Nat):Int)):=by
 have h1:¬ ((1:Int) < 0):=by omega
 unfold Builtin.Slice.sliceAdjust
 simp only [h1,if_false]
 refine Prod.ext ?_ ?_
 ·cases lo with
  | none=>rfl
  | some v=>exact na' v n 0
 ·cases hi with
  | none=>rfl
  | some v=>exact na' v n n
theorem nV' (i j:Nat):Builtin.Slice.slicePlaces (i:Int) (j:Int) 1=j - i:=by
 unfold Builtin.Slice.slicePlaces
 have h1:(1:Int) > 0:=by omega
 simp only [h1,if_true,Int.ediv_one]
 split<;>omega
theorem iF' {v:Value}{o:Option Int}{Q:Option Int->Shared->Prop} (p:IsPart v o) (h:Q o s):wpAny (model prog w) A (Builtin.Slice.slicePartIndex v) Q E s:=by
 cases p with
 | none=>exact slicePart_none h
 | int i t=>exact slicePart_int h
theorem ig' {sl:Addr}{vl vu:Value}{lo hi:Option Int}{n:Nat}{Q:Int×Int×Nat->Shared->Prop} (hs:s.heap.IsSliceOf sl vl vu .none) (pl:IsPart vl lo) (pu:IsPart vu hi)
  (h:Q (((sIx n 0 lo:Nat):Int),1,sIx n n hi - sIx n 0 lo) s):wpAny (model prog w) A (Builtin.Slice.sliceApplied (.ref sl) (pure (n:Int))) Q E s:=by
 obtain ⟨os,hos,hcs,hds⟩:=id hs
 unfold Builtin.Slice.sliceApplied Builtin.Slice.sliceFields
 refine wpAny_bind (wpAny_bind (wpAny_field hos hds (x:=vl) rfl (wpAny_bind (wpAny_field hos hds (x:=vu) rfl (wpAny_bind (wpAny_field hos hds (x:=.none) rfl (wpAny_pure ?_)))))))
 refine wpAny_bind (slicePart_none ?_)
 show wpAny _ _ (if ((1:Int) == 0)=true then _ else _) _ _ s
 rw [if_neg (by decide)]
 refine wpAny_bind (iF' pl (wpAny_bind (iF' pu (wpAny_bind (wpAny_pure ?_)))))
 show wpAny _ _ (match Builtin.Slice.sliceAdjust lo hi 1 (n:Int) with | (lo,hi)=>pure (lo,(1:Int),Builtin.Slice.slicePlaces lo hi 1)) _ _ s
 rw [nU' lo hi n]
 show wpAny _ _ (pure (((sIx n 0 lo:Nat):Int),(1:Int),Builtin.Slice.slicePlaces ((sIx n 0 lo:Nat):Int) ((sIx n n hi:Nat):Int) 1)) _ _ s
 rw [nV']
 exact wpAny_pure h
theorem qu' (xs:Array Value) (i k:Nat):((List.range k).filterMap fun (m:Nat)=>xs[((i:Int)+(m:Int)*1).toNat]?).toArray=((xs.toList.drop i).take k).toArray:=by
 have e:(fun (m:Nat)=>xs[((i:Int)+(m:Int)*1).toNat]?)=fun m=>xs[i+m]?:=by
  funext m
  have:((i:Int)+(m:Int)*1).toNat=i+m:=by omega
  rw [this]
 rw [e]
 have:=pick_run xs i k
 rw [List.filterMap_map] at this
 have e2:((fun x=>xs[x]?)∘fun x=>i+x)=fun m=>xs[i+m]?:=rfl
 rw [e2] at this
 rw [this]
theorem ql' {t sl:Addr}{items:Array Value}{vl vu:Value}{lo hi:Option Int}{Q:Value->Shared->Prop} (ht:IsTup s.heap t items) (hs:s.heap.IsSliceOf sl vl vu .none) (pl:IsPart vl lo) (pu:IsPart vu hi)
  (hw:¬ (sIx items.size 0 lo=0/\sIx items.size items.size hi=items.size))
  (h:Q (.ref s.heap.objs.size) { s with heap:=s.heap.push { cls:=.type "tuple", data:=.seq ((items.toList.drop (sIx items.size 0 lo)).take (sIx items.size items.size hi - sIx items.size 0 lo)).toArray } })
  (hsz:items.size<=sizeLine):wpAny (model prog w) A (getItem (.ref t) (.ref sl)) Q E s:=by
 have htake:sizeOk (.seq ((items.toList.drop (sIx items.size 0 lo)).take (sIx items.size items.size hi - sIx items.size 0 lo)).toArray):=by
  show ((items.toList.drop (sIx items.size 0 lo)).take (sIx items.size items.size hi - sIx items.size 0 lo)).toArray.size<=sizeLine
  rw [List.size_toArray,List.length_take,List.length_drop,Array.length_toList]
  omega
 have hj:sIx items.size items.size hi<=items.size:=sZ' _ _ (Nat.le_refl _) hi
 obtain ⟨os,hos,hcs,hds⟩:=id hs
 have hTs:s.TypeIs (.ref sl) "slice":=⟨os,hos,hcs⟩
 unfold getItem
 try with_reducible refine wpAny_holding ?_
 first | refine wpAny_bind (wpAny_pure ?_) | skip
 refine wpAny_bind (wpAny_sequenceKey ht.typeIs (by decide) ?_)
 refine wpAny_bind (wpAny_callSpecial?_slot (name:=Str.ofString "__getitem__") ht.typeIs PyProof.Rows.slot_tuple_getitem
  (wpAny_call_entry PyProof.Rows.slot_tuple_getitem ht.typeIs entry_tuple_getitem ?_ (args_tuple_getitem _ _)))
 show wpAny _ _ (Builtin.Tuple.tupleItemsOf (.ref t) >>= _) _ _ s
 refine wpAny_bind (tupleItemsOf_ ht ?_)
 refine wpAny_bind (wpAny_typeOf hTs ?_)
 rw [if_pos (by decide)]
 refine wpAny_bind (ig' hs pl pu ?_)
 have hno:¬ ((((sIx items.size 0 lo:Nat):Int) == 0&&(1:Int) == 1&&(sIx items.size items.size hi - sIx items.size 0 lo) == items.size)=true):=by
  intro q
  rw [Bool.and_eq_true,Bool.and_eq_true] at q
  have q1:((sIx items.size 0 lo:Nat):Int)=0:=eq_of_beq q.1.1
  have q2:sIx items.size items.size hi - sIx items.size 0 lo=items.size:=eq_of_beq q.2
  exact hw ⟨by omega,by omega⟩
 show wpAny _ _ (if (((sIx items.size 0 lo:Nat):Int) == 0&&(1:Int) == 1&&(sIx items.size items.size hi - sIx items.size 0 lo) == items.size)=true then _ else _) _ _ s
 rw [if_neg hno,qu']
 first
  | exact wpAny_bind (m:=Builtin.Tuple.tupleExact _) (wpAny_newObj_type (wpAny_pure ⟨_,rfl,wpAny_pure h⟩) htake)
  | exact wpAny_bind (m:=Builtin.Tuple.tupleExact _) (wpAny_newObj_type (wpAny_bind (wpAny_pure (wpAny_pure ⟨_,rfl,wpAny_pure h⟩))) htake)
  | exact wpAny_bind (wpAny_bind (m:=Builtin.Tuple.tupleExact _) (wpAny_newObj_type (wpAny_pure (wpAny_pure ⟨_,rfl,wpAny_pure h⟩)) htake))
  | exact wpAny_bind (wpAny_bind (m:=Builtin.Tuple.tupleExact _) (wpAny_newObj_type (wpAny_pure ⟨_,rfl,wpAny_pure h⟩) htake))
end
end HT
namespace L2
open PySem PySem.Spec PyProof.Rows
abbrev TO:=St->Hp->(Option Int->Hp->Prop)->Prop
def PO (X:Cx) (e:Option Expr) (t:TO):Prop :=
 ∀ (pins:List (Addr×Obj)) (s:Shared) (σ:St) (H:Hp) (Q:Option Int->Hp->Prop),Inv X pins σ H s->t σ H Q →
  wpAny (model X.prog X.w) X.A (evalPart e X.env) (fun u s'=>∃ o H',Inv X pins σ H' s'/\IsPart u o/\Q o H') X.xe s
def tNoPart:TO:=fun _ H Q=>Q none H
def tPart (t:TE):TO:=fun σ H Q=>t σ H fun x H1=>∃ i,x=.int i/\Q (some i) H1
section
variable {X:Cx}{e:Expr}{te:TE}{lo hi:Option Expr}{tl th:TO}{pos p2:Pos}
theorem rL':PO X none tNoPart:=by
 intro pins s σ H Q I h
 rw [evalPart_none]
 exact wpAny_pure ⟨none,H,I,.none,h⟩
theorem rM' (h:PE X e te):PO X (some e) (tPart te):=by
 intro pins s σ H Q I hw
 rw [evalPart_some]
 refine thn (h pins s σ H _ I hw) fun u s1 ⟨x,H1,I1,r1,q1⟩=>?_
 obtain ⟨i,rfl,q⟩:=q1
 obtain ⟨t,rfl⟩:=r1
 exact ⟨some i,H1,I1,.int i t,q⟩
def SlR (X:Cx) (r:V->Option Int->Option Int->Hp->VK->Prop):Prop :=
 ∀ (pins:List (Addr×Obj)) (s:Shared) (σ:St) (H:Hp) (x:V) (v vl vu:Value) (lo hi:Option Int) (sl:Addr) (Q:VK),Inv X pins σ H s->RelV x v->s.heap.IsSliceOf sl vl vu .none->IsPart vl lo->IsPart vu hi->r x lo hi H Q →
  ∃ T id,typeLookup (.type T) "__getitem__"=pure (some (.builtin id))/\s.TypeIs v T/\wpAny (model X.prog X.w) X.A (getItem v (.ref sl)) (EP X pins σ Q) X.xe s
theorem SlR.or {r r':V->Option Int->Option Int->Hp->VK->Prop} (h:SlR X r) (h':SlR X r'):SlR X (fun x lo hi H Q=>r x lo hi H Q\/r' x lo hi H Q):=by
 intro pins s σ H x v vl vu lo hi sl Q I rx hs pl pu q
 rcases q with q | q
 ·exact h pins s σ H x v vl vu lo hi sl Q I rx hs pl pu q
 ·exact h' pins s σ H x v vl vu lo hi sl Q I rx hs pl pu q
def tSl (r:V->Option Int->Option Int->Hp->VK->Prop) (te:TE) (tl th:TO):TE:=fun σ H Q=>te σ H fun x H1=>tl σ H1 fun l H2=>th σ H2 fun u H3=>r x l u H3 Q
theorem qv' {r:V->Option Int->Option Int->Hp->VK->Prop} (hr:SlR X r) (he:PE X e te) (hl:PO X lo tl) (hu:PO X hi th):PE X (.Subscript e (.Slice lo hi none p2) pos) (tSl r te tl th):=by
 intro pins s σ H Q I h
 refine Subscript_ (thn (he pins s σ H _ I h) fun v s1 ⟨x,H1,I1,r1,q1⟩=>?_)
 refine wpAny_Slice (thn (hl pins s1 σ H1 _ I1 q1) fun vl s2 ⟨l,H2,I2,pl,q2⟩=>thn (hu pins s2 σ H2 _ I2 q2) fun vu s3 ⟨u,H3,I3,pu,q3⟩=>?_)
 rw [evalPart_none]
 refine wpAny_pure ?_
 have I4:Inv X pins σ H3 { s3 with heap:=s3.heap.push { cls:=.type "slice", data:=.fields #[vl,vu,.none] } }:=I3.kept (t':=s3.toks) fun b ob q=>Heap.get?_push_of_some _ q
 obtain ⟨T,id,hT,ht,hg⟩:=hr pins { s3 with heap:=s3.heap.push { cls:=.type "slice", data:=.fields #[vl,vu,.none] } } σ H3 x v vl vu l u s3.heap.objs.size Q I4 r1 (Heap.IsSliceOf.new ..) pl pu q3
 show wpAny (model X.prog X.w) X.A (subscriptTail e (.Slice lo hi none p2) v (.ref s3.heap.objs.size)) (EP X pins σ Q) X.xe { s3 with heap:=s3.heap.push { cls:=.type "slice", data:=.fields #[vl,vu,.none] } }
 exact tail_any (ops:=[.ref s3.heap.objs.size,v]) ht hT hg (by with_unfolding_all rfl)
def cutV (xs:List V) (lo hi:Option Int):List V:=(xs.drop (HT.sIx xs.length 0 lo)).take (HT.sIx xs.length xs.length hi - HT.sIx xs.length 0 lo)
theorem hY' (xs:List V) (lo hi:Option Int):(cutV xs lo hi).length<=xs.length:=by
 unfold cutV
 rw [List.length_take,List.length_drop]
 omega
def rSlT (K:PySem.W.Frag):V->Option Int->Option Int->Hp->VK->Prop:=fun x lo hi H Q=>∃ a xs,x=.ref a/\SqT K H a xs ∧
 ¬ (HT.sIx xs.length 0 lo=0/\HT.sIx xs.length xs.length hi=xs.length)/\∀ p,H p=none->Q (.ref p) (upd H p (.tup (cutV xs lo hi)))
theorem s0':SlR X (rSlT X.K):=by
 intro pins s σ H x v vl vu lo hi sl Q I rx hs pl pu h
 obtain ⟨a,xs,rfl,hx,hw,q⟩:=h
 cases rx
 obtain ⟨its,r,ht,hz⟩:=I.tuple hx
 have hlen:its.toArray.size=xs.length:=by rw [List.size_toArray];exact r.length.symm
 refine ⟨"tuple", _,PyProof.Rows.slot_tuple_getitem.lookup,ht.typeIs,?_⟩
 refine HT.ql' ht hs pl pu (by rw [hlen];exact hw) ?_ (by rw [hlen];exact hz)
 rw [hlen]
 refine ⟨.ref s.heap.objs.size,_,I.laid (t':=s.toks) (o:=.tup (cutV xs lo hi)) (fun b ob q=>Heap.get?_push_of_some _ q) (Nat.le_refl _) ?_,rfl,q _ (I.hok.fresh (Nat.le_refl _))⟩
 exact ⟨Nat.le_trans (hY' xs lo hi) hz,_,(r.drop (HT.sIx xs.length 0 lo)).take (HT.sIx xs.length xs.length hi - HT.sIx xs.length 0 lo),IsTup.new _ _⟩
def rCatT (K:PySem.W.Frag):R2:=fun x y H Q=>∃ a b xs ys,x=.ref a/\y=.ref b/\SqT K H a xs/\SqT K H b ys/\xs≠[]/\xs.length+ys.length<=sizeLine ∧
 (ys=[]->Q (.ref a) H)/\(ys≠[]->∀ p,H p=none->Q (.ref p) (upd H p (.tup (xs++ys))))
theorem Vals.nil_iff {xs:List V}{us:List Value} (r:Vals xs us):us=[]↔xs=[]:=by
 cases r with
 | nil=>simp
 | cons _ _=>simp
theorem rN':OpR X (binaryOp .Add) (rCatT X.K):=by
 intro pins s σ H x y v u Q I rx ry h
 obtain ⟨a,b,xs,ys,rfl,rfl,ha,hb,hx,hz,q1,q2⟩:=h
 cases rx
 cases ry
 obtain ⟨its,r1,p1,_⟩:=I.tuple ha
 obtain ⟨its2,r2,p2,_⟩:=I.tuple hb
 refine HT.u7' p1 p2 (fun z=>hx (r1.nil_iff.mp z)) (fun z=>⟨.ref a,H,I,rfl,q1 (r2.nil_iff.mp z)⟩) (fun z=>?_) (by rw [← r1.length,← r2.length];exact hz)
 refine ⟨.ref s.heap.objs.size,_,I.laid (t':=s.toks) (o:=.tup (xs++ys)) (fun b ob q=>Heap.get?_push_of_some _ q) (Nat.le_refl _) ?_,rfl,q2 (fun w=>z (r2.nil_iff.mpr w)) _ (I.hok.fresh (Nat.le_refl _))⟩
 exact ⟨by rw [List.length_append];exact hz,_,r1.append r2,IsTup.new _ _⟩
end
end L2
namespace L2
open PySem PySem.Spec PyProof.Rows
def ixN (n:Nat) (i:Int):Option Nat:=if 0<=i then (if i < n then some i.toNat else none) else if -(n:Int)<=i then some (i+n).toNat else none
def atI {α:Type} (xs:List α) (i:Int):Option α:=(ixN xs.length i).bind fun j=>xs[j]?
theorem nb' {n:Nat}{i:Int}{j:Nat} (h:ixN n i=some j):seqIndex? i n=some j/\j < n/\-(n:Int)<=i/\i < n:=by
 unfold ixN at h
 by_cases h0:0<=i
 ·rw [if_pos h0] at h
  by_cases h1:i < n
  ·rw [if_pos h1] at h
   have e:i.toNat=j:=Option.some.inj h
   exact ⟨by rw [seqIndex_of h0 h1,e],by omega,by omega,h1⟩
  ·rw [if_neg h1] at h;cases h
 ·rw [if_neg h0] at h
  by_cases h1:-(n:Int)<=i
  ·rw [if_pos h1] at h
   have e:(i+n).toNat=j:=Option.some.inj h
   exact ⟨by rw [seqIndex_neg (by omega) h1,e],by omega,h1,by omega⟩
  ·rw [if_neg h1] at h;cases h
theorem nc' {α:Type}{xs:List α}{i:Int}{v:α} (h:atI xs i=some v):∃ j,seqIndex? i xs.length=some j/\xs[j]?=some v/\j < xs.length/\-(xs.length:Int)<=i/\i < xs.length:=by
 unfold atI at h
 cases e:ixN xs.length i with
 | none=>rw [e] at h;cases h
 | some j =>
  rw [e] at h
  obtain ⟨h1,h2,h3,h4⟩:=nb' e
  exact ⟨j,h1,h,h2,h3,h4⟩
def PlainIx (b:Expr):Prop:=∀ o i,subscripted b false o i=operate [o,i] (getItem o i)
def IxR (X:Cx) (r:R2):Prop :=
 ∀ (value slice:Expr) (pins:List (Addr×Obj)) (s:Shared) (σ:St) (H:Hp) (x y:V) (v u:Value) (Q:VK),Inv X pins σ H s->RelV x v->RelV y u->r x y H Q →
  subscripted slice false v u=operate [v,u] (getItem v u)->wpAny (model X.prog X.w) X.A (subscriptTail value slice v u) (EP X pins σ Q) X.xe s
def MtR (X:Cx) (id:String) (r:V->List V->Hp->VK->Prop):Prop :=
 ∀ (pins:List (Addr×Obj)) (s:Shared) (σ:St) (H:Hp) (x:V) (xs:List V) (v:Value) (us:List Value) (Q:VK),Inv X pins σ H s->RelV x v->Vals xs us->r x xs H Q →
  wpAny (model X.prog X.w) X.A (call (.builtin id) (v::us)) (EP X pins σ Q) X.xe s
section
variable {X:Cx}{a b:Expr}{ta tb:TE}{pos:Pos}
theorem IxR.or {r r':R2} (h:IxR X r) (h':IxR X r'):IxR X (fun x y H Q=>r x y H Q\/r' x y H Q):=by
 intro value slice pins s σ H x y v u Q I rx ry q hs
 rcases q with q | q
 ·exact h value slice pins s σ H x y v u Q I rx ry q hs
 ·exact h' value slice pins s σ H x y v u Q I rx ry q hs
theorem rl' {r:R2} (hr:IxR X r) (ha:PE X a ta) (hb:PE X b tb) (hs:PlainIx b):PE X (.Subscript a b pos) (tOp r ta tb):=by
 intro pins s σ H Q I h
 exact Subscript_ (binT ha hb I h fun v u s2 x y H2 I2 rx ry q=>hr a b pins s2 σ H2 x y v u Q I2 rx ry q (hs _ _))
def rIxL (K:PySem.W.Frag):R2:=fun x y H Q=>∃ p xs i v,x=.ref p/\y=.int i/\SqL K H p xs/\atI xs i=some v/\Q v H
def rIxT (K:PySem.W.Frag):R2:=fun x y H Q=>∃ p xs i v,x=.ref p/\y=.int i/\SqT K H p xs/\atI xs i=some v/\Q v H
theorem nd':IxR X (rIxL X.K):=by
 intro value slice pins s σ H x y v u Q I rx ry h hs
 obtain ⟨p,xs,i,z,rfl,rfl,hq,he,q⟩:=h
 cases rx
 obtain ⟨t,rfl⟩:=ry
 obtain ⟨its,r,pl,hz⟩:=I.list hq
 obtain ⟨j,h1,h2,h3,h4,h5⟩:=nc' he
 obtain ⟨w,ew,rw'⟩:=r.get h2
 have hl:=r.length
 have hn:=line63
 have fin:EP X pins σ Q w s:=⟨z,H,I,rw',q⟩
 by_cases h0:0<=i
 ·have hj:i.toNat=j:=by
   rw [seqIndex_of h0 h5] at h1
   exact Option.some.inj h1
  exact item_listR pl.isList h0 (by omega) (by rw [hj];simpa using ew) fin hs
 ·have hj:(i+(its.toArray.size:Int)).toNat=j:=by
   rw [seqIndex_neg (by omega) h4] at h1
   rw [List.size_toArray,← hl]
   exact Option.some.inj h1
  exact subscriptTail_builtinR (x:=w) pl.isList.typeIs slot_list_getitem.lookup
   (wpAny_getItem_list_neg (Q:=fun r s'=>r=w/\EP X pins σ Q r s') pl.isList (by omega) (by rw [List.size_toArray]<;>omega) (by omega) (by rw [hj];simpa using ew) ⟨rfl,fin⟩) hs
theorem s2':IxR X (rIxT X.K):=by
 intro value slice pins s σ H x y v u Q I rx ry h hs
 obtain ⟨p,xs,i,z,rfl,rfl,hq,he,q⟩:=h
 cases rx
 obtain ⟨t,rfl⟩:=ry
 obtain ⟨its,r,pl,hz⟩:=I.tuple hq
 obtain ⟨j,h1,h2,h3,h4,h5⟩:=nc' he
 obtain ⟨w,ew,rw'⟩:=r.get h2
 have hl:=r.length
 have hn:=line63
 have fin:EP X pins σ Q w s:=⟨z,H,I,rw',q⟩
 exact subscriptTail_builtinR (x:=w) pl.typeIs slot_tuple_getitem.lookup
  (getItem_tuple (j:=j) (Q:=fun r s'=>r=w/\EP X pins σ Q r s') pl (by omega) (by omega) (by rw [List.size_toArray,← hl];exact h1) (by simpa using ew) ⟨rfl,fin⟩) hs
theorem nW' (its:List Value) (n j:Nat) (u:Value):Obj.mapSeq (·.setIfInBounds j u) { cls:=.type "list", data:=.seq its.toArray n }={ cls:=.type "list", data:=.seq (its.set j u).toArray n }:=by
 simp [Obj.mapSeq]
theorem Inv.lst {pins:List (Addr×Obj)}{σ:St}{H:Hp}{s:Shared}{p:Addr}{xs:List V} (I:Inv X pins σ H s) (h:H p=some (.lst xs)) :
  ∃ (its:List Value) (n:Nat),Vals xs its/\s.heap.get? p=some { cls:=.type "list", data:=.seq its.toArray n }/\xs.length<=sizeLine:=by
 obtain ⟨z,its,n,r,e⟩:=I.hok p _ h
 exact ⟨its,n,r,e,z⟩
theorem Inv.lstUpd {pins:List (Addr×Obj)}{σ:St}{H:Hp}{s:Shared}{p:Addr}{xs ys:List V}{its its':List Value}{n n':Nat}{f:Obj->Obj} (I:Inv X pins σ H s) (h:H p=some (.lst xs))
  (ho:s.heap.get? p=some { cls:=.type "list", data:=.seq its.toArray n }) (hf:f { cls:=.type "list", data:=.seq its.toArray n }={ cls:=.type "list", data:=.seq its'.toArray n' }) (r:Vals ys its') (hz:ys.length<=sizeLine) (t:Nat) :
  Inv X pins σ (upd H p (.lst ys)) { s with heap:=s.heap.update p f,toks:=t }:=by
 have e:(s.heap.update p f).get? p=some { cls:=.type "list", data:=.seq its'.toArray n' }:=by
  rw [Heap.get?_update_self f ho (by rw [hf]<;>rfl),hf]
 refine I.write (x:=p) (e:=p) (by rw [h];trivial) (.inl rfl) (fun b u hb q=>(Heap.get?_update_other _ _ (Ne.symm hb)).trans q) ⟨_,e⟩ ?_
 exact ⟨hz,its',n',r,e⟩
def rSetL:V->V->V->Hp->(Hp->Prop)->Prop:=fun o i v H Q=>∃ p xs k j,o=.ref p/\i=.int k/\H p=some (.lst xs)/\ixN xs.length k=some j/\Q (upd H p (.lst (xs.set j v)))
theorem qw':PSet X rSetL:=by
 intro pins s σ H o i v ov iv u Q I ro ri rv h
 obtain ⟨p,xs,k,j,rfl,rfl,hp,hj,q⟩:=h
 cases ro
 obtain ⟨t,rfl⟩:=ri
 obtain ⟨its,n,r,ho,hz⟩:=I.lst hp
 obtain ⟨h1,h2,h3,h4⟩:=nb' hj
 have hl:=r.length
 have hn:=line63
 have I':Inv X pins σ (upd H p (.lst (xs.set j v))) { s with heap:=s.heap.update p (Obj.mapSeq (·.setIfInBounds j u)) } :=
  I.lstUpd hp ho (nW' its n j u) (r.set rv j) (by rw [List.length_set];exact hz) s.toks
 by_cases h0:0<=k
 ·have hk:k.toNat=j:=by
   rw [seqIndex_of h0 h4] at h1
   exact Option.some.inj h1
  exact PySem.W.ki_setAt ho h0 (by omega) (by rw [List.size_toArray,← hl];exact h4) (by rw [hk];exact ⟨_,I',q⟩)
 ·have hk:(k+(its.toArray.size:Int)).toNat=j:=by
   rw [seqIndex_neg (by omega) h3] at h1
   rw [List.size_toArray,← hl]
   exact Option.some.inj h1
  exact PySem.W.ki_setBack ho (by omega) (by rw [List.size_toArray,← hl];exact h3) (by omega) (by rw [hk];exact ⟨_,I',q⟩)
theorem k5' (lo hi:Option Int) (n:Nat):(sliceBounds lo hi none n).1=((HT.sIx n 0 lo:Nat):Int)/\(sliceBounds lo hi none n).2.1=((HT.sIx n n hi:Nat):Int)/\(sliceBounds lo hi none n).2.2=1:=by
 refine ⟨?_,?_,rfl⟩
 ·cases lo with
  | none=>simp [sliceBounds,HT.sIx]
  | some i =>
   simp only [sliceBounds,HT.sIx,Option.getD_none,show (1:Int) > 0 by decide,if_true]
   by_cases h:i < 0
   ·simp only [h,if_true]<;>omega
   ·simp only [h,if_false]<;>omega
 ·cases hi with
  | none=>simp [sliceBounds,HT.sIx]
  | some i =>
   simp only [sliceBounds,HT.sIx,Option.getD_none,show (1:Int) > 0 by decide,if_true]
   by_cases h:i < 0
   ·simp only [h,if_true]<;>omega
   ·simp only [h,if_false]<;>omega
theorem ky' (its:List Value) (lo hi:Option Int):slicePick its.toArray lo hi none=((its.drop (HT.sIx its.length 0 lo)).take (HT.sIx its.length its.length hi - HT.sIx its.length 0 lo)).toArray:=by
 obtain ⟨h1,h2,h3⟩:=k5' lo hi its.toArray.size
 unfold slicePick
 rw [h1,h2,h3]
 simp only [sliceRange_one,pick_run,List.size_toArray]<;>rfl
def rSlL (K:PySem.W.Frag):V->Option Int->Option Int->Hp->VK->Prop:=fun x lo hi H Q=>∃ a xs,x=.ref a/\SqL K H a xs/\∀ p,H p=none->Q (.ref p) (upd H p (.lst (cutV xs lo hi)))
theorem rO':SlR X (rSlL X.K):=by
 intro pins s σ H x v vl vu lo hi sl Q I rx hs pl pu h
 obtain ⟨a,xs,rfl,hx,q⟩:=h
 cases rx
 obtain ⟨its,r,ht,hz⟩:=I.list hx
 have hlen:=r.length
 refine ⟨"list", _,slot_list_getitem.lookup,ht.isList.typeIs,?_⟩
 refine wpAny_getItem_list_slice ht.isList hs pl pu .none (by simp) ?_ (by rw [List.size_toArray]<;>omega)
 rw [ky',← hlen]
 refine ⟨.ref s.heap.objs.size,_,I.laid (t':=s.toks) (o:=.lst (cutV xs lo hi)) (fun b ob q=>Heap.get?_push_of_some _ q) (Nat.le_refl _) ?_,rfl,q _ (I.hok.fresh (Nat.le_refl _))⟩
 exact ⟨Nat.le_trans (hY' xs lo hi) hz,_,0,(r.drop (HT.sIx xs.length 0 lo)).take (HT.sIx xs.length xs.length hi - HT.sIx xs.length 0 lo),Heap.get?_push_size _ rfl⟩
theorem gH':CallR X (.builtin "len") (fun xs H Q=>∃ p ys,xs=[.ref p]/\(SqL X.K H p ys\/SqT X.K H p ys)/\Q (.int ys.length) H):=by
 intro pins s σ H xs us Q I r h
 obtain ⟨p,ys,rfl,hq,q⟩:=h
 obtain ⟨u,rfl,rx⟩:=vals1 r
 cases rx
 have hn:=line63
 rcases hq with hq | hq
 ·obtain ⟨its,r',pl,hz⟩:=I.list hq
  have hlen:=r'.length
  exact Calls.call_len_list pl.isList (by simp only [List.size_toArray]<;>omega) ⟨.int ys.length,H,I.tok _,⟨s.toks+1,by rw [List.size_toArray,hlen]⟩,q⟩
 ·obtain ⟨its,r',pl,hz⟩:=I.tuple hq
  have hlen:=r'.length
  exact len_tuple pl (by simp only [List.size_toArray]<;>omega) ⟨.int ys.length,H,I.tok _,⟨s.toks+1,by rw [List.size_toArray,hlen]⟩,q⟩
theorem k6':CallR X (.type "list") (fun xs H Q=>∃ p ys,xs=[.ref p]/\(SqL X.K H p ys\/SqT X.K H p ys)/\∀ l,H l=none->Q (.ref l) (upd H l (.lst ys))):=by
 intro pins s σ H xs us Q I r h
 obtain ⟨p,ys,rfl,hq,q⟩:=h
 obtain ⟨u,rfl,rx⟩:=vals1 r
 cases rx
 have fin:∀ (its:List Value),Vals ys its->ys.length<=sizeLine->∀ (h':Heap) (c':Nat),(∀ b o',s.heap.get? b=some o'->h'.get? b=some o') →
   h'.get? s.heap.objs.size=some { cls:=.type "list", dict:=none,data:=.seq its.toArray c',slots:=#[] }->EP X pins σ Q (.ref s.heap.objs.size) { s with heap:=h' }:=fun its r' hz h' c' kp e =>
  ⟨.ref s.heap.objs.size,_,I.laid (t':=s.toks) kp (Nat.le_refl _) (show ObjOk X.prog X.w _ h' _ (.lst ys) from ⟨hz,its,c',r',e⟩),rfl,q _ (I.hok.fresh (Nat.le_refl _))⟩
 rcases hq with hq | hq
 ·obtain ⟨its,r',pl,hz⟩:=I.list hq
  have hlen:=r'.length
  obtain ⟨o,ho,hc,n,hd⟩:=pl.isList
  exact call_list_seq p (.inl rfl) ho hc hd (fun h' c' kp e=>fin its r' hz h' c' kp e) (by simp only [List.size_toArray]<;>omega)
 ·obtain ⟨its,r',pl,hz⟩:=I.tuple hq
  have hlen:=r'.length
  obtain ⟨o,ho,hc,n,hd⟩:=pl
  exact call_list_seq p (.inr rfl) ho hc hd (fun h' c' kp e=>fin its r' hz h' c' kp e) (by simp only [List.size_toArray]<;>omega)
theorem kz':CallR X (.type "tuple") (fun xs H Q=>∃ p ys,xs=[.ref p]/\((SqL X.K H p ys/\∀ l,H l=none->Q (.ref l) (upd H l (.tup ys)))\/(SqT X.K H p ys/\Q (.ref p) H))):=by
 intro pins s σ H xs us Q I r h
 obtain ⟨p,ys,rfl,h⟩:=h
 obtain ⟨u,rfl,rx⟩:=vals1 r
 cases rx
 rcases h with ⟨hq,q⟩ | ⟨hq,q⟩
 ·obtain ⟨its,r',pl,hz⟩:=I.list hq
  have hlen:=r'.length
  refine call_tuple_list pl.isList (fun h' kp=>?_) (by simp only [List.size_toArray]<;>omega)
  have I1:Inv X pins σ H { s with heap:=h' }:=I.kept (t':=s.toks) kp
  have I2:Inv X pins σ (upd H h'.objs.size (.tup ys)) { s with heap:=h'.push { cls:=.type "tuple", data:=.seq its.toArray } } :=
   I1.laid (t':=s.toks) (fun b o e=>Heap.get?_push_of_some _ e) (Nat.le_refl _) (show ObjOk X.prog X.w _ _ _ (.tup ys) from ⟨hz,its,r',IsTup.new _ _⟩)
  exact ⟨.ref h'.objs.size,_,I2,rfl,q _ (I1.hok.fresh (Nat.le_refl _))⟩
 ·obtain ⟨its,r',pl,hz⟩:=I.tuple hq
  exact call_tuple_same pl ⟨.ref p,H,I,rfl,q⟩
def tyV (K:PySem.W.Frag) (T:String) (x:V) (H:Hp):Prop:=match x with
 | .str _=>T = "str"
 | .int _=>T = "int"
 | .ref p=>(T = "list"/\∃ xs,SqL K H p xs)\/(T = "tuple"/\∃ o,K.lookup p=some o/\o.cls=.type "tuple"/\o.dict=none) ∨
   (T = "dict"/\((∃ kvs,H p=some (.dK kvs))\/∃ kvs,H p=some (.dT kvs)))\/(T = "set"/\∃ S n,H p=some (.set S n))
 | _=>False
theorem o2' {pins:List (Addr×Obj)}{σ:St}{H:Hp}{s:Shared}{T:String}{x:V}{v:Value} (I:Inv X pins σ H s) (r:RelV x v) (ty:tyV X.K T x H) :
  s.TypeIs v T/\∀ a,v=.ref a->∃ ob,s.heap.get? a=some ob/\ob.dict=none:=by
 cases x with
 | str z =>
  obtain ⟨t,rfl⟩:=r
  cases (show T = "str" from ty)
  exact ⟨typeIs_str s z t,fun _ e=>nomatch e⟩
 | int i =>
  obtain ⟨t,rfl⟩:=r
  cases (show T = "int" from ty)
  exact ⟨typeIs_int s i t,fun _ e=>nomatch e⟩
 | ref p =>
  cases r
  rcases ty with ⟨rfl,xs,hq⟩ | ⟨rfl,o,hk,hc,hd⟩ | ⟨rfl,hk⟩ | ⟨rfl,S,n,hk⟩
  ·obtain ⟨its,_,pl,_⟩:=I.list hq
   refine ⟨pl.isList.typeIs,fun a e=>?_⟩
   cases e
   obtain ⟨o,n,e,c,hd,_⟩:=pl
   exact ⟨o,e,hd⟩
  ·refine ⟨⟨o,I.kIn p o hk,hc⟩,fun a e=>?_⟩
   cases e
   exact ⟨o,I.kIn _ o hk,hd⟩
  ·have z:∃ o,s.heap.get? p=some o/\o.ExactDict:=by
    rcases hk with ⟨kvs,hk⟩ | ⟨kvs,hk⟩
    ·obtain ⟨_,_,_,_,o,_,_,e,ex,_⟩:=I.hok p _ hk
     exact ⟨o,e,ex⟩
    ·obtain ⟨_,_,_,_,o,_,_,e,ex,_⟩:=I.hok p _ hk
     exact ⟨o,e,ex⟩
   obtain ⟨o,e,ex⟩:=z
   refine ⟨⟨o,e,ex.1⟩,fun a e2=>?_⟩
   cases e2
   exact ⟨o,e,ex.2.1⟩
  ·obtain ⟨o,_,_,_,e,ex,_⟩:=I.hok p _ hk
   refine ⟨⟨o,e,ex.1⟩,fun a e2=>?_⟩
   cases e2
   exact ⟨o,e,ex.2.1⟩
 | _=>exact False.elim ty
def tBM0 (K:PySem.W.Frag) (T:String) (r:V->List V->Hp->VK->Prop) (to:TE):TE:=fun σ H Q=>to σ H fun x H1=>tyV K T x H1/\r x [] H1 Q
def tBM (K:PySem.W.Frag) (T:String) (r:V->List V->Hp->VK->Prop) (to:TE) (t:TA):TE:=fun σ H Q=>to σ H fun x H1=>tyV K T x H1/\t σ H1 fun xs H2=>r x xs H2 Q
variable {o e:Expr}{es:List Expr}{to:TE}{t:TA}{name:Str}{apos cpos:Pos}{T id:String}{r:V->List V->Hp->VK->Prop}
theorem s3' (pa:PlainAttrs T) (slot:Slot T name id) (hty:typeOf (.builtin id)=pure (.type "method_descriptor")) (hm:MtR X id r) (ho:PE X o to)
  (hbase:attributeBase o name X.env (eval o X.env)=eval o X.env:=by rfl) (hline:(apos.endLine == cpos.line)=true:=by rfl):PE X (.Call (.Attribute o name apos) [] [] cpos) (tBM0 X.K T r to):=by
 intro pins s σ H Q I h
 refine wpAny_Call_method0_late hbase hline (thn (ho pins s σ H _ I h) fun v s1 ⟨x,H1,I1,r1,ty,q1⟩=>?_)
 obtain ⟨h1,h2⟩:=o2' I1 r1 ty
 exact ⟨T,id,pa,slot,hty,h1,h2,Calls.callWith_builtin rfl (PySem.evalArgs_none (hm pins s1 σ H1 x [] v [] Q I1 r1 .nil q1))⟩
theorem nX' (pa:PlainAttrs T) (slot:Slot T name id) (hty:typeOf (.builtin id)=pure (.type "method_descriptor")) (hm:MtR X id r) (ho:PE X o to) (ha:PA X (e::es) t)
  (hbase:attributeBase o name X.env (eval o X.env)=eval o X.env:=by rfl)
  (hfew:((backTo cpos (starEach (e::es) X.env)).all (fun x=>!x.1)&&(backToKw cpos (keywordEach [] X.env)).all (fun x=>x.1.isSome)
   &&decide ((e::es).length+([]:List Keyword).length+(if ([]:List Keyword).isEmpty then 0 else 1) < 30))=true:=by rfl)
  (hline:(apos.endLine == cpos.line)=true:=by rfl) (hs:starEach (e::es) X.env=(false,eval e X.env)::starEach es X.env:=by rfl) (hplain:(backTo cpos (starEach es X.env)).any (·.1)=false:=by rfl) :
  PE X (.Call (.Attribute o name apos) (e::es) [] cpos) (tBM X.K T r to t):=by
 intro pins s σ H Q I h
 refine wpAny_Call_method_late hbase hfew hline rfl (thn (ho pins s σ H _ I h) fun v s1 ⟨x,H1,I1,r1,ty,q1⟩=>?_)
 obtain ⟨h1,h2⟩:=o2' I1 r1 ty
 refine ⟨T,id,pa,slot,hty,h1,h2,?_⟩
 have hA:=ha cpos pins s1 σ H1 _ I1 q1
 rw [hs] at hA ⊢
 refine Calls.callWith_builtin (by show (false||(backTo cpos (starEach es X.env)).any (·.1))=false;rw [hplain]<;>rfl) (Calls.evalArgs_plain ?_)
 exact thn hA fun us s2 ⟨vs,H2,I2,r2,q2⟩=>hm pins s2 σ H2 x vs v us Q I2 r1 r2 q2
end
end L2
namespace L2
open PySem PySem.Spec PyProof.Rows
def MtM (X:Cx) (id:String) (r:V->List V->Hp->VK->Prop):Prop :=
 ∀ (pins:List (Addr×Obj)) (s:Shared) (σ:St) (H:Hp) (x:V) (xs:List V) (v:Value) (us:List Value) (Q:VK),Inv X pins σ H s->RelV x v->Vals xs us->r x xs H Q →
  wpAny (model X.prog X.w) X.A (call (.builtin id) (v::us)) (EP X pins σ Q) X.xe s
theorem Vals.one:∀ {x:V}{us:List Value},Vals [x] us->∃ u,us=[u]/\RelV x u
 | _,_,.cons r .nil=>⟨_,rfl,r⟩
theorem Vals.two:∀ {x y:V}{us:List Value},Vals [x,y] us->∃ u v,us=[u,v]/\RelV x u/\RelV y v
 | _,_,_,.cons r (.cons q .nil)=>⟨_,_,rfl,r,q⟩
theorem Vals.zero:∀ {us:List Value},Vals [] us->us=[]
 | _,.nil=>rfl
theorem Vals.dropLast {xs:List V}{us:List Value} (h:Vals xs us):Vals xs.dropLast us.dropLast:=by
 induction h with
 | nil=>exact .nil
 | cons r t ih =>
  cases t with
  | nil=>exact .nil
  | cons q t'=>exact .cons r ih
theorem Vals.eraseIdx:∀ {xs:List V}{us:List Value} (i:Nat),Vals xs us->Vals (xs.eraseIdx i) (us.eraseIdx i)
 | _,_,_,.nil=>.nil
 | _,_,0,.cons _ t=>t
 | _,_,i+1,.cons r t=>.cons r (Vals.eraseIdx i t)
theorem nY' {α:Type} (l:List α):l.eraseIdx (l.length - 1)=l.dropLast:=by
 induction l with
 | nil=>rfl
 | cons a r ih =>
  cases r with
  | nil=>rfl
  | cons b r =>
   have e:(a::b::r).length - 1=((b::r).length - 1)+1:=by
    have h1:(a::b::r).length=r.length+2:=rfl
    have h2:(b::r).length=r.length+1:=rfl
    omega
   rw [e,List.eraseIdx_cons_succ,ih]
   all_goals rfl
theorem jX' {α:Type}:∀ (l:List α) (i:Nat),(l.eraseIdx i).length<=l.length
 | [],_=>Nat.le_refl _
 | _::_,0=>Nat.le_succ _
 | _::r,i+1=>Nat.succ_le_succ (jX' r i)
section
variable {X:Cx}{pins:List (Addr×Obj)}{σ:St}{H:Hp}{s:Shared}{l b:Addr}{xs ys zs:List V}
theorem Inv.lset {its its':List Value}{n:Nat}{f:Array Value->Array Value}{t':Nat} (I:Inv X pins σ H s) (hH:H l=some (.lst xs))
  (e:s.heap.get? l=some { cls:=.type "list", data:=.seq its.toArray n }) (hf:f its.toArray=its'.toArray) (hv:Vals ys its') (hz:ys.length<=sizeLine) :
  Inv X pins σ (upd H l (.lst ys)) { s with heap:=s.heap.update l (Obj.mapSeq f),toks:=t' }:=by
 have q:=PySem.IsL.update e f
 rw [hf] at q
 refine I.write (x:=l) (e:=l) (by rw [hH];exact trivial) (.inl rfl) (fun b' u hb hu=>(Heap.get?_update_other s.heap (Obj.mapSeq f) (Ne.symm hb)).trans hu) ⟨_,q⟩ ?_
 exact ⟨hz,its',_,hv,q⟩
theorem Inv.lnew {its:List Value}{t':Nat} (I:Inv X pins σ H s) (hv:Vals ys its) (hz:ys.length<=sizeLine) :
  Inv X pins σ (upd H s.heap.objs.size (.lst ys)) { s with heap:=s.heap.push { cls:=.type "list", data:=.seq its.toArray },toks:=t' } :=
 I.laid (fun _ _ q=>Heap.get?_push_of_some _ q) (Nat.le_refl _) ⟨hz,its,0,hv,Heap.get?_push_size _ rfl⟩
theorem Inv.fresh (I:Inv X pins σ H s):H s.heap.objs.size=none:=I.hok.fresh (Nat.le_refl _)
theorem Inv.lstM (I:Inv X pins σ H s) (hH:H l=some (.lst xs)):xs.length<=sizeLine/\∃ (its:List Value) (n:Nat),Vals xs its/\xs.length=its.length/\s.heap.get? l=some { cls:=.type "list", data:=.seq its.toArray n }:=by
 obtain ⟨z,its,n,r,e⟩:=I.hok l _ hH
 exact ⟨z,its,n,r,r.length,e⟩
theorem notLongL {n:Nat} (h:n<=sizeLine):Builtin.List.listTooLong n=false:=by
 unfold Builtin.List.listTooLong
 exact decide_eq_false (by omega)
end
section
variable {X:Cx}
def rAppend:V->List V->Hp->VK->Prop:=fun x vs H Q=>∃ l xs y,x=.ref l/\vs=[y]/\H l=some (.lst xs)/\xs.length < sizeLine/\Q .non (upd H l (.lst (xs++[y])))
theorem jY':MtM X "list.append" rAppend:=by
 intro pins s σ H x vs v us Q I rx rv h
 obtain ⟨l,xs,y,rfl,rfl,hH,hz,q⟩:=h
 cases rx
 obtain ⟨u,rfl,ru⟩:=rv.one
 obtain ⟨z,its,n,r,hl,e⟩:=I.lstM hH
 refine call_meets F.slot_list_append ⟨_,e,rfl⟩ F.entry_list_append (F.args_list_append_2 _ _) (PySem.list_append l its.toArray n u (by rw [List.size_toArray];omega)) ⟨e,?_⟩
 refine ⟨.non,_,I.lset (its':=its++[u]) hH e (by simp) (r.append (.cons ru .nil)) ?_,rfl,q⟩
 rw [List.length_append,List.length_singleton]
 omega
def rPop:V->List V->Hp->VK->Prop:=fun x vs H Q=>∃ l xs y,x=.ref l/\vs=[]/\H l=some (.lst xs)/\xs[xs.length - 1]?=some y/\Q y (upd H l (.lst xs.dropLast))
theorem s4':MtM X "list.pop" rPop:=by
 intro pins s σ H x vs v us Q I rx rv h
 obtain ⟨l,xs,y,rfl,rfl,hH,hy,q⟩:=h
 cases rx
 have hus:=rv.zero
 subst hus
 obtain ⟨z,its,n,r,hl,e⟩:=I.lstM hH
 obtain ⟨u,hu,ru⟩:=r.get hy
 have hy':its.toArray[its.toArray.size - 1]?=some u:=by
  show its.toArray[its.length - 1]?=some u
  rw [← Array.getElem?_toList,← hl]
  exact hu
 refine call_meets F.slot_list_pop ⟨_,e,rfl⟩ F.entry_list_pop (F.args_list_pop_1 _) (MeetsSeq.list_pop_last l its.toArray n u hy' (by rw [List.size_toArray];omega)) ⟨e,?_⟩
 refine ⟨y,_,I.lset (its':=its.dropLast) hH e ?_ r.dropLast ?_,ru,q⟩
 ·show its.toArray.eraseIdxIfInBounds (its.toArray.size - 1)=its.dropLast.toArray
  rw [List.size_toArray,List.eraseIdxIfInBounds_toArray,nY']
 ·rw [List.length_dropLast]
  omega
def rPopAt:V->List V->Hp->VK->Prop:=fun x vs H Q=>∃ l xs i k y,x=.ref l/\vs=[.int i]/\H l=some (.lst xs)/\-(2 ^ 63)<=i/\i < 2 ^ 63/\seqIndex? i xs.length=some k/\xs[k]?=some y/\Q y (upd H l (.lst (xs.eraseIdx k)))
theorem qx':MtM X "list.pop" rPopAt:=by
 intro pins s σ H x vs v us Q I rx rv h
 obtain ⟨l,xs,i,k,y,rfl,rfl,hH,h1,h2,hk,hy,q⟩:=h
 cases rx
 obtain ⟨u,rfl,ru⟩:=rv.one
 obtain ⟨t,rfl⟩:=ru
 obtain ⟨z,its,n,r,hl,e⟩:=I.lstM hH
 obtain ⟨w,hw,rw'⟩:=r.get hy
 refine call_meets F.slot_list_pop ⟨_,e,rfl⟩ F.entry_list_pop (F.args_list_pop_2 _ _)
  (MeetsSeq.list_pop_at l its.toArray n i t k w (fitsIndex_both h1 h2) (by rw [List.size_toArray,← hl];exact hk) (by rw [← Array.getElem?_toList];exact hw) (by rw [List.size_toArray];omega)) ⟨e,?_⟩
 refine ⟨y,_,I.lset (its':=its.eraseIdx k) hH e ?_ (r.eraseIdx k) ?_,rw',q⟩
 ·show its.toArray.eraseIdxIfInBounds k=(its.eraseIdx k).toArray
  rw [List.eraseIdxIfInBounds_toArray]
 ·have:=jX' xs k
  omega
end
section
variable {prog:Program}{w:World}{A:Around}{E:Value->Shared->Prop}{s:Shared}
end
section
variable {X:Cx}
end
end L2
namespace Att
open PySem PySem.W PySem.Calls PyProof.Rows
theorem iG' {P:Params}{h:Heap}:∀ (ns:List Int) (vs:List Value),WellAll P h vs (ns.map WData.int)->IntsAre vs ns:=by
 intro ns
 induction ns with
 | nil =>
  intro vs w
  rw [List.map_nil] at w
  cases w
  exact .nil
 | cons n ns ih =>
  intro vs w
  rw [List.map_cons] at w
  cases w with
  | cons a b =>
   cases a
   exact .cons _ _ (ih _ b)
theorem o3' {l:OpenLaw}{n:Nat} (hn:l.most=some n){P:Params}{h:Heap}{args:List WData}{vals:List Value}
  (hpre:l.row.toRowW.claim.pre args=true) (hwl:WellAll P h vals args) :
  ∃ a vs ns,vals=[Value.ref a]/\args=[WData.list (ns.map WData.int)]/\h.get? a=some { cls:=.type "list", data:=.seq vs.toArray }/\IntsAre vs ns/\ns.length<=n:=by
 have hsh:WShape.hasAll [] args [.list .int]=true:=(pre_splitW hpre).1
 have hc:l.pre.holds [] { args:=args }=true:=(pre_splitW hpre).2
 obtain ⟨d,r,rfl,h1,h2⟩:=hasAllW_cons hsh
 obtain rfl:=hasAllW_nil h2
 obtain ⟨xs,rfl,h3⟩:=hasW_list h1
 obtain ⟨ns,rfl⟩:=items_int h3
 have hlen:ns.length<=n:=by
  unfold OpenLaw.pre at hc
  have h4:(WTm.not (.lt (.lit (.int (n:Int))) (.len (.arg 0)))).holds [] { args:=[.list (ns.map .int)] }=true:=by
   have h4:=(holds_andW hc).1
   rw [hn] at h4
   exact h4
  have h5:=condW_of h4 (w_not (w_lt w_lit (w_len_list (w_arg rfl))))
  rw [List.length_map] at h5
  refine Nat.le_of_not_lt fun q=>?_
  have q':(n:Int) < ((ns.length:Nat):Int):=by omega
  first
   | (rw [decide_eq_true q'] at h5;exact absurd h5 (by decide))
   | (simp at h5;omega)
 cases hwl with
 | cons w1 w2 =>
  cases w2
  cases w1 with
  | list ho hall=>exact ⟨_,_,ns,rfl,rfl,ho,iG' ns _ hall,hlen⟩
theorem o4' (l:OpenLaw) (args:List WData):l.row.toRowW.claim.post args (.bool true) args=true :=
 postW_of (r:=l.row.toRowW) (X:=(true == true))
  (show WShape.has [] (.bool true) .bool=true by first | rfl | decide | simp [WShape.has,WShape.arms,WShape.armsAll])
  (show (WTm.eq .res (.lit (.bool true))).value [] { args:=args,res:=some (.bool true),after:=args }=some (.bool (true == true)) from w_eq_bool (w_res rfl) w_lit) rfl
theorem tW' {l:OpenLaw}{n:Nat}{q:Program}{loose:List Str}{XP:(Str->Option Value)->Heap->Prop}{YP:World->Heap->Prop}{d:DefRec}
  (hn:l.most=some n) (hdf:d.params.defaults=[])
  (call:∀ (w:World) (s₀ s₁:Shared) (mg mb:Str->Option Value) (fa:Addr) (o:Obj) (pm cd doc:Value) (a:Addr) (vs:List Value) (ns:List Int),
   Ground q loose [] XP w s₀ mg mb s₁.heap->YP w s₁.heap →
   s₁.heap.get? fa=some o->o.data=.func (docDef d.name d.params d.body d.scope pm cd doc)->s₁.heap.CodeRec cd d.name->mg d.name=some (.ref fa) →
   s₁.heap.get? a=some { cls:=.type "list", data:=.seq vs.toArray }->IntsAre vs ns->ns.length<=n->s₁.gens=#[] →
   codeAny (model l.prog w) callerA (.call (.ref fa) ⟨[.ref a],[]⟩) (fun r s'=>r=.ok (.ret (.bool true))/\OldK s₁.heap s'.heap/\s'.os=s₁.os/\AllBare s'.gens) s₁) :
  WalkO q loose XP YP l.row.toRowW d [] (fun f vs=>PySem.call f vs):=by
 intro w s₀ s₁ mg mb G Y fa o pm cd doc dV kV ho hd hcd hD hmg hg args vals as hpre hlay hrd hwl hlo
 obtain rfl:dV=.none:=Dflts.none hD hdf
 obtain rfl:kV=.none:=Dflts.noKw hD
 obtain ⟨a,vs,ns,rfl,rfl,hobj,hints,hlen⟩:=o3' hn hpre hwl
 refine enter_call (codeAny_mono (call w s₀ s₁ mg mb fa o pm cd doc a vs ns G Y ho (fd_plain hd) hcd hmg hobj hints hlen hg) fun r s' hq=>?_)
 obtain ⟨rfl,h2,h3,h4⟩:=hq
 exact ⟨.inl ⟨.bool true,.bool true,[],rfl,fun _=>rfl,.bool true,o4' l _,fun _=>⟨List.Pairwise.nil,fun _ hm=>(nomatch hm)⟩⟩,h2,h3,h4⟩
section
variable {prog:Program}{w:World}{A:Around}{E:Value->Shared->Prop}{s:Shared}{K:Frag}
end
end Att
namespace L2
open PySem PySem.Spec PyProof.Rows
theorem jZ':∀ {vs:List Value}{ns:List Int},IntsAre vs ns->Vals (ns.map V.int) vs
 | _,_,.nil=>.nil
 | _,_,.cons n t h=>.cons ⟨t,rfl⟩ (jZ' h)
def Only (H:Hp):Prop:=∀ b,H b=none\/∃ o xs,H b=some (.frz o (.lst xs))
end L2
namespace L2
open PySem PySem.Spec PyProof.Rows
end L2
namespace L2
open PySem PySem.Spec PyProof.Rows
def defArgs (s:Stmt):Arguments:=match s with
 | .FunctionDef _ a _ _ _ _ _ _ _ _=>a
 | _=>{ posonlyargs:=[],args:=[],vararg:=none,kwonlyargs:=[],kw_defaults:=[],kwarg:=none,defaults:=[] }
def defBody (s:Stmt):List Stmt:=match s with
 | .FunctionDef _ _ b _ _ _ _ _ _ _=>b
 | _=>[]
def defScope (s:Stmt):Scope:=match s with
 | .FunctionDef _ _ _ _ _ _ sc _ _ _=>sc
 | _=>{ kind:=.function,names:=[],isGenerator:=false,isCoroutine:=false }
abbrev CX0:CXT:=fun _ _ _ _ _ _=>False
abbrev E0:XK:=fun _ _ _=>False
theorem pass0 {X:Cx}:Passes CX0 X E0:=fun _ _ _ _ _ _ _ h=>h.elim
structure Fun (K:PySem.W.Frag) (x qual:Str) (st:Stmt) (f:Addr) (fd:FuncData):Prop where
 ex:∃ (oc:Value) (od:Option Addr) (kV doc pm:Value) (an:Option Addr) (cdv ct:Value) (osl:Array (Option Value)),
  fd=PySem.W.fnOf x qual (defArgs st) (defBody st) (defScope st) .none kV doc pm an cdv ct/\K.lookup f=some ⟨oc,od,.func fd,osl⟩/\PySem.W.codeIn K cdv qual=true
 kp:PySem.W.keepIn K (.ref f)=true
section
variable {P:Program}{w:World}{K:PySem.W.Frag}{mg:Str->Option Value}{base:Heap}
theorem Fun.ok {x qual:Str}{st:Stmt}{f:Addr}{fd:FuncData}{N ps:List Str}{k:Nat}{sp:Sp} (F:Fun K x qual st f fd) (S:FnScope N ps (defScope st)) (len:∀ vs H Q E,sp vs H Q E->vs.length=ps.length)
  (hbody:∀ (cdv:Value) (A:Around) (outer:List Env) (s:Shared) (H:Hp) (vs:List V) (Q:VK) (E:XK),Room k (A.deeper (envOfC qual (defScope st) s.heap.objs.size f cdv))->sp vs H Q E →
   ∃ t,PSs (cxOf CX0 P w K mg base N qual (defScope st) f cdv A outer s H E).nox (defBody st) t/\t { nx:=fun _ H'=>Q .non H',rt:=Q } (start N vs) H):FnOk P w K mg base CX0 (k+1) f fd ps sp:=by
 obtain ⟨oc,od,kV,doc,pm,an,cdv,ct,osl,rfl,lk,hcd⟩:=F.ex
 refine t4' lk hcd S len fun A outer s H vs Q E hr hsp=>?_
 obtain ⟨t,h,q⟩:=hbody cdv A outer s H vs Q E hr hsp
 exact ⟨t,h.nox,q⟩
theorem Fun.binds {x qual:Str}{st:Stmt}{f:Addr}{fd:FuncData}{ps:List Str} (F:Fun K x qual st f fd)
  (h:∀ (kV doc pm:Value) (an:Option Addr) (cdv ct:Value) (us:List Value),us.length=ps.length->bindArgs (PySem.W.fnOf x qual (defArgs st) (defBody st) (defScope st) .none kV doc pm an cdv ct) ⟨us,[]⟩=pure (ps.zip us)):Binds K fd ps []:=by
 obtain ⟨oc,od,kV,doc,pm,an,cdv,ct,osl,rfl,lk,hcd⟩:=F.ex
 exact .all (h kV doc pm an cdv ct)
theorem aB' {x qual:Str}{st:Stmt}{f:Addr}{oc:Value}{od an:Option Addr}{osl:Array (Option Value)}{kV doc pm cdv ct:Value} (l:K.lookup f=some ⟨oc,od,.func (PySem.W.fnOf x qual (defArgs st) (defBody st) (defScope st) .none kV doc pm an cdv ct),osl⟩)
  (c:PySem.W.codeIn K cdv qual=true) (k:PySem.W.keepIn K (.ref f)=true):Fun K x qual st f (PySem.W.fnOf x qual (defArgs st) (defBody st) (defScope st) .none kV doc pm an cdv ct):=⟨⟨oc,od,kV,doc,pm,an,cdv,ct,osl,rfl,l,c⟩,k⟩
end
section
variable {X:Cx}
theorem pv (i:Nat){x:Str}{pos:Pos} (hN:X.N[i]?=some x:=by rfl) (hv:Vis X.env.scope x:=by first | exact Or.inl rfl | exact Or.inr (Or.inl rfl) | exact Or.inr (Or.inr rfl)) (hd:(x == ("__debug__":Str))=false:=by decide)
  (hcd:(x == ("__classdict__":Str))=false:=by decide):PE X (.Name x pos) (tVar i):=sD' hN hv hd hcd
end
theorem iteF {A B:Prop} (h:B):if false=true then A else B:=by
 rw [if_neg Bool.false_ne_true]
 exact h
theorem iteT {A B:Prop} (h:A):if true=true then A else B:=by
 rw [if_pos rfl]
 exact h
def Same (H H':Hp):Prop:=∀ b o,H b=some o->H' b=some o
theorem Same.refl (H:Hp):Same H H:=fun _ _ h=>h
theorem Same.trans {H H1 H2:Hp} (a:Same H H1) (b:Same H1 H2):Same H H2:=fun c o h=>b c o (a c o h)
theorem Same.free {H H':Hp} (e:Same H H'){l:Addr} (h:H' l=Option.none):H l=Option.none:=by
 cases q:H l with
 | none=>rfl
 | some o =>
  rw [e l o q] at h
  cases h
end L2
namespace L2
open PySem PySem.Spec PyProof.Rows
section
variable {κ:Type} [DecidableEq κ]
end
section
variable {P:Program}{w:World}{H:Hp}{h:Heap}{a:Addr}
end
section
variable {X:Cx}{pins:List (Addr×Obj)}{σ:St}{H:Hp}{s:Shared}{a:Addr}{y v:V}{u r:Value}{o:Option V}{A:Around}{E:Value->Shared->Prop}
end
section
variable {X:Cx}{pins:List (Addr×Obj)}{σ:St}{H:Hp}{s:Shared}{a:Addr}{kvs:List (Key×V)}{k:Key}{u:Value}{A:Around}{E:Value->Shared->Prop}
end
section
variable {X:Cx}{o i e value:Expr}{pos pos' tpos:Pos}{td ty tv:TE}
end
section
variable {X:Cx}{pos:Pos}
end
structure M1 (X:Cx) (o:Expr) (m:Str) (apos:Pos) (e:Expr) (cpos:Pos):Prop where
 base:attributeBase o m X.env (eval o X.env)=eval o X.env
 few:((backTo cpos (starEach [e] X.env)).all (fun x=>!x.1)&&(backToKw cpos (keywordEach [] X.env)).all (fun x=>x.1.isSome)
  &&decide (([e]:List Expr).length+([]:List Keyword).length+(if ([]:List Keyword).isEmpty then 0 else 1) < 30))=true
 line:(apos.endLine == cpos.line)=true
 trees:backTo cpos (starEach [e] X.env)=[(false,eval e X.env)]
structure M2 (X:Cx) (o:Expr) (m:Str) (apos:Pos) (e f:Expr) (cpos:Pos):Prop where
 base:attributeBase o m X.env (eval o X.env)=eval o X.env
 few:((backTo cpos (starEach [e,f] X.env)).all (fun x=>!x.1)&&(backToKw cpos (keywordEach [] X.env)).all (fun x=>x.1.isSome)
  &&decide (([e,f]:List Expr).length+([]:List Keyword).length+(if ([]:List Keyword).isEmpty then 0 else 1) < 30))=true
 line:(apos.endLine == cpos.line)=true
 trees:backTo cpos (starEach [e,f] X.env)=[(false,eval e X.env),(false,eval f X.env)]
section
variable {X:Cx}{pins:List (Addr×Obj)}{σ:St}{H:Hp}{s:Shared}{a:Addr}{y d:V}{u r:Value}{o:Option V}{A:Around}{E:Value->Shared->Prop}
end
section
variable {X:Cx}{o e f:Expr}{apos cpos:Pos}{td ty tx:TE}
end
section
variable {X:Cx}{pins:List (Addr×Obj)}{σ:St}{H:Hp}{s:Shared}{a:Addr}{kvs:List (Key×V)}{A:Around}{E:Value->Shared->Prop}
end
section
variable {X:Cx}{pins:List (Addr×Obj)}{σ:St}{H:Hp}{s:Shared}{a:Addr}{y:V}{u:Value}{A:Around}{E:Value->Shared->Prop}
end
end L2
namespace L2
open PySem PySem.Spec PyProof.Rows
section
variable {κ:Type} [DecidableEq κ]
end
end L2
set_option maxHeartbeats 4000000
namespace DL
open PySem PySem.Spec PyProof.Rows L2
inductive D where
 | non | bl (b:Bool) | int (i:Int) | str (x:Str) | tup (xs:List D) | lst (xs:List D)
def RdK (K:PySem.W.Frag) (I:Hp) (a:Addr) (xs:List V):Prop:=Rd I a (.lst xs)\/∃ (its:List Value) (n:Nat),K.lookup a=some { cls:=.type "list", data:=.seq its.toArray n }/\Vals xs its/\its.length<=sizeLine
theorem RdK.of {K:PySem.W.Frag}{I:Hp}{a:Addr}{xs:List V} (h:I a=some (.lst xs)):RdK K I a xs:=.inl (.inl h)
theorem RdK.sq {K:PySem.W.Frag}{I:Hp}{a:Addr}{xs:List V} (h:RdK K I a xs):SqL K I a xs:=by
 rcases h with h | ⟨its,n,h1,h2,h3⟩
 ·exact .inl h
 ·exact .inr ⟨_,its.toArray,n,h1,rfl,rfl,rfl,by simpa using h3,by simpa using h2⟩
mutual
def Is (K:PySem.W.Frag) (I:Hp):D->V->Prop
 | .non,v=>v=.non
 | .bl b,v=>v=.bl b
 | .int i,v=>v=.int i
 | .str x,v=>v=.str x
 | .tup ds,v=>∃ a xs,v=.ref a/\SqT K I a xs/\IsA K I ds xs
 | .lst ds,v=>∃ a xs,v=.ref a/\RdK K I a xs/\IsA K I ds xs
def IsA (K:PySem.W.Frag) (I:Hp):List D->List V->Prop
 | [],xs=>xs=[]
 | d::ds,xs=>∃ x r,xs=x::r/\Is K I d x/\IsA K I ds r
end
section
variable {K:PySem.W.Frag}{I I' H:Hp}
theorem Same.rd {a:Addr}{o:HO} (e:Same I I') (h:Rd I a o):Rd I' a o:=by
 rcases h with h | ⟨u,h⟩
 ·exact .inl (e _ _ h)
 ·exact .inr ⟨u,e _ _ h⟩
theorem Same.rdK {a:Addr}{xs:List V} (e:Same I I') (h:RdK K I a xs):RdK K I' a xs:=by
 rcases h with h | h
 ·exact .inl (Same.rd e h)
 ·exact .inr h
theorem Same.sqT {a:Addr}{xs:List V} (e:Same I I') (h:SqT K I a xs):SqT K I' a xs:=by
 rcases h with h | h
 ·exact .inl (Same.rd e h)
 ·exact .inr h
mutual
theorem Is.mono (e:Same I I'):∀ {d:D}{v:V},Is K I d v->Is K I' d v
 | .non,_,h=>by rw [Is] at h ⊢;exact h
 | .bl _,_,h=>by rw [Is] at h ⊢;exact h
 | .int _,_,h=>by rw [Is] at h ⊢;exact h
 | .str _,_,h=>by rw [Is] at h ⊢;exact h
 | .tup ds,v,h=>by
  rw [Is] at h ⊢
  obtain ⟨a,xs,e1,e2,e3⟩:=h
  exact ⟨a,xs,e1,Same.sqT e e2,IsA.mono e e3⟩
 | .lst ds,v,h=>by
  rw [Is] at h ⊢
  obtain ⟨a,xs,e1,e2,e3⟩:=h
  exact ⟨a,xs,e1,Same.rdK e e2,IsA.mono e e3⟩
theorem IsA.mono (e:Same I I'):∀ {ds:List D}{xs:List V},IsA K I ds xs->IsA K I' ds xs
 | [],_,h=>by rw [IsA] at h ⊢;exact h
 | d::ds,xs,h=>by
  rw [IsA] at h ⊢
  obtain ⟨x,r,e1,e2,e3⟩:=h
  exact ⟨x,r,e1,Is.mono e e2,IsA.mono e e3⟩
end
theorem IsA.nil:IsA K I [] []:=by rw [IsA]
theorem IsA.cons {d:D}{ds:List D}{x:V}{xs:List V} (h:Is K I d x) (t:IsA K I ds xs):IsA K I (d::ds) (x::xs):=by
 rw [IsA];exact ⟨x,xs,rfl,h,t⟩
theorem IsA.nil_inv {xs:List V} (h:IsA K I [] xs):xs=[]:=by rw [IsA] at h;exact h
theorem IsA.cons_inv {d:D}{ds:List D}{xs:List V} (h:IsA K I (d::ds) xs):∃ x r,xs=x::r/\Is K I d x/\IsA K I ds r:=by rw [IsA] at h;exact h
theorem IsA.length:∀ {ds:List D}{xs:List V},IsA K I ds xs->ds.length=xs.length
 | [],xs,h=>by rw [h.nil_inv]<;>rfl
 | d::ds,xs,h=>by
  obtain ⟨x,r,rfl,_,t⟩:=h.cons_inv
  simp [IsA.length t]
theorem IsA.get:∀ {ds:List D}{xs:List V}{i:Nat}{d:D},IsA K I ds xs->ds[i]?=some d->∃ x,xs[i]?=some x/\Is K I d x
 | [],xs,i,d,h,e=>by simp at e
 | c::ds,xs,0,d,h,e=>by
  obtain ⟨x,r,rfl,hx,t⟩:=h.cons_inv
  simp at e;subst e
  exact ⟨x,rfl,hx⟩
 | c::ds,xs,i+1,d,h,e=>by
  obtain ⟨x,r,rfl,hx,t⟩:=h.cons_inv
  obtain ⟨y,e1,e2⟩:=IsA.get (i:=i) t (by simpa using e)
  exact ⟨y,by simpa using e1,e2⟩
theorem IsA.append:∀ {ds es:List D}{xs ys:List V},IsA K I ds xs->IsA K I es ys->IsA K I (ds++es) (xs++ys)
 | [],es,xs,ys,h,t=>by rw [h.nil_inv];exact t
 | d::ds,es,xs,ys,h,t=>by
  obtain ⟨x,r,rfl,hx,h'⟩:=h.cons_inv
  exact IsA.cons hx (IsA.append h' t)
theorem IsA.take:∀ {ds:List D}{xs:List V} (n:Nat),IsA K I ds xs->IsA K I (ds.take n) (xs.take n)
 | ds,xs,0,h=>by rw [List.take_zero,List.take_zero];exact IsA.nil
 | [],xs,n+1,h=>by rw [h.nil_inv];exact IsA.nil
 | d::ds,xs,n+1,h=>by
  obtain ⟨x,r,rfl,hx,h'⟩:=h.cons_inv
  rw [List.take_succ_cons,List.take_succ_cons]
  exact IsA.cons hx (IsA.take n h')
theorem IsA.drop:∀ {ds:List D}{xs:List V} (n:Nat),IsA K I ds xs->IsA K I (ds.drop n) (xs.drop n)
 | ds,xs,0,h=>by rw [List.drop_zero,List.drop_zero];exact h
 | [],xs,n+1,h=>by rw [h.nil_inv];exact IsA.nil
 | d::ds,xs,n+1,h=>by
  obtain ⟨x,r,rfl,hx,h'⟩:=h.cons_inv
  rw [List.drop_succ_cons,List.drop_succ_cons]
  exact IsA.drop n h'
theorem IsA.set {d:D}{x:V} (q:Is K I d x):∀ {ds:List D}{xs:List V} (n:Nat),IsA K I ds xs->IsA K I (ds.set n d) (xs.set n x)
 | [],xs,n,h=>by rw [h.nil_inv];exact IsA.nil
 | c::ds,xs,0,h=>by
  obtain ⟨y,r,rfl,hx,h'⟩:=h.cons_inv
  exact IsA.cons q h'
 | c::ds,xs,n+1,h=>by
  obtain ⟨y,r,rfl,hx,h'⟩:=h.cons_inv
  exact IsA.cons hx (IsA.set q n h')
theorem IsA.one {d:D}{xs:List V} (h:IsA K I [d] xs):∃ x,xs=[x]/\Is K I d x:=by
 obtain ⟨x,r,rfl,hx,t⟩:=h.cons_inv
 rw [t.nil_inv]
 exact ⟨x,rfl,hx⟩
theorem IsA.two {d e:D}{xs:List V} (h:IsA K I [d,e] xs):∃ x y,xs=[x,y]/\Is K I d x/\Is K I e y:=by
 obtain ⟨x,r,rfl,hx,t⟩:=h.cons_inv
 obtain ⟨y,rfl,hy⟩:=t.one
 exact ⟨x,y,rfl,hx,hy⟩
theorem ar' {i:Int}{v:V} (h:Is K I (.int i) v):v=.int i:=by rw [Is] at h;exact h
theorem cj' {i:Bool}{v:V} (h:Is K I (.bl i) v):v=.bl i:=by rw [Is] at h;exact h
theorem cR' {i:Str}{v:V} (h:Is K I (.str i) v):v=.str i:=by rw [Is] at h;exact h
theorem cS' {v:V} (h:Is K I .non v):v=.non:=by rw [Is] at h;exact h
theorem aD' {ds:List D}{v:V} (h:Is K I (.tup ds) v):∃ a xs,v=.ref a/\SqT K I a xs/\IsA K I ds xs:=by rw [Is] at h;exact h
theorem aJ' {ds:List D}{v:V} (h:Is K I (.lst ds) v):∃ a xs,v=.ref a/\RdK K I a xs/\IsA K I ds xs:=by rw [Is] at h;exact h
theorem Is.int (i:Int):Is K I (.int i) (.int i):=by rw [Is]
theorem Is.bl (i:Bool):Is K I (.bl i) (.bl i):=by rw [Is]
theorem Is.str (i:Str):Is K I (.str i) (.str i):=by rw [Is]
theorem Is.non:Is K I .non .non:=by rw [Is]
theorem Is.tup {ds:List D}{a:Addr}{xs:List V} (h:SqT K I a xs) (t:IsA K I ds xs):Is K I (.tup ds) (.ref a):=by rw [Is];exact ⟨a,xs,rfl,h,t⟩
theorem Is.lst {ds:List D}{a:Addr}{xs:List V} (h:RdK K I a xs) (t:IsA K I ds xs):Is K I (.lst ds) (.ref a):=by rw [Is];exact ⟨a,xs,rfl,h,t⟩
end
inductive R where
 | val (d:D) | own (ds:List D) | bor (ds:List D) | fro (ds:List D) | dic (kvs:List (Int×D))
def R.mut:R->Bool
 | .val _=>false
 | .own _=>true
 | .bor _=>true
 | .fro _=>false
 | .dic _=>false
def R.ptr:R->Bool
 | .val _=>false
 | .own _=>true
 | .bor _=>true
 | .fro _=>false
 | .dic _=>true
abbrev Gm:=List (Option R)
def Mt (K:PySem.W.Frag) (G I H:Hp) (ds:List D) (v:V):Prop:=∃ p xs,v=.ref p/\H p=some (.lst xs)/\I p=none/\G p=none/\IsA K I ds xs
def IsK (K:PySem.W.Frag) (I:Hp) (kvs:List (Int×D)) (xs:List (Key×V)):Prop:=xs.map (·.1)=kvs.map (fun q=>Sum.inl q.1)/\IsA K I (kvs.map (·.2)) (xs.map (·.2))
theorem IsK.mono {K:PySem.W.Frag}{I I':Hp}{kvs:List (Int×D)}{xs:List (Key×V)} (e:Same I I') (h:IsK K I kvs xs):IsK K I' kvs xs:=⟨h.1,h.2.mono e⟩
def MtK (K:PySem.W.Frag) (G I H:Hp) (kvs:List (Int×D)) (v:V):Prop:=∃ p xs,v=.ref p/\H p=some (.dK xs)/\I p=none/\G p=none/\IsK K I kvs xs
def SlotOk (K:PySem.W.Frag) (G I H:Hp):R->V->Prop
 | .val d,v=>Is K I d v
 | .own ds,v=>Mt K G I H ds v
 | .bor ds,v=>Mt K G I H ds v
 | .fro ds,v=>∃ p xs,v=.ref p/\I p=some (.lst xs)/\G p=none/\IsA K I ds xs
 | .dic kvs,v=>MtK K G I H kvs v
theorem SlotOk.mt {K:PySem.W.Frag}{G I H:Hp}{r:R}{v:V} (h:SlotOk K G I H r v) (m:r.ptr=true):∃ p xs,v=.ref p/\H p=some xs/\I p=none/\G p=none:=by
 cases r with
 | val d=>cases m
 | own ds=>obtain ⟨p,xs,e1,e2,e3,e4,_⟩:=h;exact ⟨p,_,e1,e2,e3,e4⟩
 | bor ds=>obtain ⟨p,xs,e1,e2,e3,e4,_⟩:=h;exact ⟨p,_,e1,e2,e3,e4⟩
 | fro ds=>cases m
 | dic ds=>obtain ⟨p,xs,e1,e2,e3,e4,_⟩:=h;exact ⟨p,_,e1,e2,e3,e4⟩
structure Rep (K:PySem.W.Frag) (B:Nat->Option (Option V)) (G I H:Hp) (σ:L2.St) (Γ:Gm):Prop where
 iH:Same I H
 gH:Same G H
 len:σ.length=Γ.length
 slot:∀ (i:Nat) (r:R),Γ[i]?=some (some r)->∃ v,σ[i]?=some (some v)/\SlotOk K G I H r v
 dist:∀ (i j:Nat) (r r':R) (v:V),Γ[i]?=some (some r)->Γ[j]?=some (some r')->r.ptr=true->r'.ptr=true->σ[i]?=some (some v)->σ[j]?=some (some v)->i=j
 bor:∀ (i:Nat) (ds:List D),Γ[i]?=some (some (.bor ds))->σ[i]?=B i
structure Grow (G I I':Hp):Prop where
 up:Same I I'
 new:∀ b o,I' b=some o->I b=some o\/G b=none
theorem Grow.refl (G I:Hp):Grow G I I:=⟨Same.refl _,fun _ _ h=>.inl h⟩
theorem Grow.trans {G I I1 I2:Hp} (a:Grow G I I1) (b:Grow G I1 I2):Grow G I I2:=⟨a.up.trans b.up,fun c o h=>by
 rcases b.new c o h with h1 | h1
 ·exact a.new c o h1
 ·exact .inr h1⟩
section
variable {K:PySem.W.Frag}{B:Nat->Option (Option V)}{G I I' H H':Hp}{σ:L2.St}{Γ:Gm}
theorem Rep.ext (r:Rep K B G I H σ Γ) (hI:Same I I') (hH:Same H H') (iH:Same I' H') (new:∀ b o,I' b=some o->I b=some o\/H b=none):Rep K B G I' H' σ Γ where
 iH:=iH
 gH:=r.gH.trans hH
 len:=r.len
 slot:=fun i q e=>by
  obtain ⟨v,e1,e2⟩:=r.slot i q e
  refine ⟨v,e1,?_⟩
  have mt:∀ ds,Mt K G I H ds v->Mt K G I' H' ds v:=fun ds h=>by
   obtain ⟨p,xs,h1,h2,h3,h4,h5⟩:=h
   refine ⟨p,xs,h1,hH _ _ h2,?_,h4,h5.mono hI⟩
   cases z:I' p with
   | none=>rfl
   | some o =>
    rcases new p o z with z1 | z1
    ·rw [h3] at z1;cases z1
    ·rw [h2] at z1;cases z1
  cases q with
  | val d=>exact Is.mono hI e2
  | dic ds =>
   obtain ⟨p,xs,h1,h2,h3,h4,h5⟩:=e2
   refine ⟨p,xs,h1,hH _ _ h2,?_,h4,h5.mono hI⟩
   cases z:I' p with
   | none=>rfl
   | some o =>
    rcases new p o z with z1 | z1
    ·rw [h3] at z1;cases z1
    ·rw [h2] at z1;cases z1
  | own ds=>exact mt ds e2
  | bor ds=>exact mt ds e2
  | fro ds=>obtain ⟨p,xs,f1,f2,f3,f4⟩:=e2;exact ⟨p,xs,f1,hI _ _ f2,f3,f4.mono hI⟩
 dist:=r.dist
 bor:=r.bor
theorem aW' {H:Hp}{p:Addr} (h:H p=none) (o:HO):Same H (upd H p o):=fun b u q=>by rw [am' (bq' q h)];exact q
theorem j0' {I H:Hp}{p:Addr} (h:Same I H) (o:HO):Same (upd I p o) (upd H p o):=fun b u q=>by
 by_cases e:b=p
 ·subst e;rw [au'] at q ⊢;exact q
 ·rw [am' e] at q ⊢;exact h b u q
theorem Rep.iFree (r:Rep K B G I H σ Γ){p:Addr} (h:H p=none):I p=none:=r.iH.free h
theorem Rep.gFree (r:Rep K B G I H σ Γ){p:Addr} (h:H p=none):G p=none:=r.gH.free h
theorem Rep.alloc (r:Rep K B G I H σ Γ){p:Addr} (h:H p=none) (o:HO):Rep K B G (upd I p o) (upd H p o) σ Γ :=
 r.ext (aW' (r.iFree h) o) (aW' h o) (j0' r.iH o) fun b u q=>by
  by_cases e:b=p
  ·subst e;exact .inr h
  ·rw [am' e] at q;exact .inl q
theorem Rep.growAlloc (r:Rep K B G I H σ Γ){p:Addr} (h:H p=none) (o:HO):Grow G I (upd I p o):=⟨aW' (r.iFree h) o,fun b u q=>by
 by_cases e:b=p
 ·subst e;exact .inr (r.gFree h)
 ·rw [am' e] at q;exact .inl q⟩
theorem Rep.fresh (r:Rep K B G I H σ Γ){p:Addr} (h:H p=none) (o:HO):Rep K B G I (upd H p o) σ Γ :=
 r.ext (Same.refl _) (aW' h o) (r.iH.trans (aW' h o)) fun b u q=>.inl q
def Apart (σ:L2.St) (Γ:Gm) (p:Addr):Prop:=∀ (j:Nat) (r:R),Γ[j]?=some (some r)->r.ptr=true->σ[j]?≠some (some (.ref p))
theorem Rep.apart (r:Rep K B G I H σ Γ){p:Addr} (h:H p=none):Apart σ Γ p:=fun j q e m z=>by
 obtain ⟨v,e1,e2⟩:=r.slot j q e
 obtain ⟨p',xs,h1,h2,_,_⟩:=e2.mt m
 rw [e1] at z
 subst h1
 cases z
 rw [h] at h2;cases h2
theorem Rep.freeze (r:Rep K B G I H σ Γ){p:Addr}{xs:List V} (h:H p=some (.lst xs)) (hi:I p=none) (a:Apart σ Γ p):Rep K B G (upd I p (.lst xs)) H σ Γ where
 iH:=fun b u q=>by
  by_cases e:b=p
  ·subst e;rw [au'] at q;cases q;exact h
  ·rw [am' e] at q;exact r.iH b u q
 gH:=r.gH
 len:=r.len
 slot:=fun i q e=>by
  obtain ⟨v,e1,e2⟩:=r.slot i q e
  refine ⟨v,e1,?_⟩
  have up:=aW' hi (.lst xs)
  have mt:q.ptr=true->∀ ds,Mt K G I H ds v->Mt K G (upd I p (.lst xs)) H ds v:=fun m ds h=>by
   obtain ⟨p',xs',h1,h2,h3,h4,h5⟩:=h
   refine ⟨p',xs',h1,h2,?_,h4,h5.mono up⟩
   have ne:p'≠p:=fun z=>a i q e m (by rw [e1,h1,z])
   rw [am' ne];exact h3
  cases q with
  | val d=>exact Is.mono up e2
  | dic ds =>
   obtain ⟨p',xs',h1,h2,h3,h4,h5⟩:=e2
   refine ⟨p',xs',h1,h2,?_,h4,h5.mono up⟩
   have ne:p'≠p:=fun z=>a i _ e rfl (by rw [e1,h1,z])
   rw [am' ne];exact h3
  | own ds=>exact mt rfl ds e2
  | bor ds=>exact mt rfl ds e2
  | fro ds=>obtain ⟨p,xs,f1,f2,f3,f4⟩:=e2;exact ⟨p,xs,f1,up _ _ f2,f3,f4.mono up⟩
 dist:=r.dist
 bor:=r.bor
theorem growFreeze {G I:Hp}{p:Addr}{xs:List V} (hi:I p=none) (hg:G p=none):Grow G I (upd I p (.lst xs)):=⟨aW' hi _,fun b u q=>by
 by_cases e:b=p
 ·subst e;exact .inr hg
 ·rw [am' e] at q;exact .inl q⟩
theorem aX' {α:Type}{l:List α}{i j:Nat}{a b:α} (h:(l.set i a)[j]?=some b):(j=i/\b=a/\i < l.length)\/(j≠i/\l[j]?=some b):=by
 by_cases e:j=i
 ·subst e
  by_cases hl:j < l.length
  ·rw [List.getElem?_set_self hl] at h;cases h;exact .inl ⟨rfl,rfl,hl⟩
  ·rw [List.getElem?_eq_none (by rw [List.length_set];omega)] at h;cases h
 ·rw [List.getElem?_set_ne (Ne.symm e)] at h;exact .inr ⟨e,h⟩
theorem Rep.forget (r:Rep K B G I H σ Γ) (i:Nat):Rep K B G I H σ (Γ.set i none) where
 iH:=r.iH
 gH:=r.gH
 len:=by rw [List.length_set];exact r.len
 slot:=fun j q e=>by
  rcases aX' e with ⟨_,z,_⟩ | ⟨_,z⟩
  ·cases z
  ·exact r.slot j q z
 dist:=fun j k q q' v e e'=>by
  rcases aX' e with ⟨_,z,_⟩ | ⟨_,z⟩
  ·cases z
  rcases aX' e' with ⟨_,z',_⟩ | ⟨_,z'⟩
  ·cases z'
  exact r.dist j k q q' v z z'
 bor:=fun j ds e=>by
  rcases aX' e with ⟨_,z,_⟩ | ⟨_,z⟩
  ·cases z
  ·exact r.bor j ds z
theorem Rep.learn (r:Rep K B G I H σ Γ){i:Nat}{q:R}{v:V} (hv:σ[i]?=some (some v)) (ok:SlotOk K G I H q v) (ha:q.ptr=true->∀ p,v=.ref p->∀ (j:Nat) (r:R),j≠i->Γ[j]?=some (some r)->r.ptr=true->σ[j]?≠some (some (.ref p)))
  (hb:∀ ds,q=.bor ds->σ[i]?=B i):Rep K B G I H σ (Γ.set i (some q)) where
 iH:=r.iH
 gH:=r.gH
 len:=by rw [List.length_set];exact r.len
 slot:=fun j q' e=>by
  rcases aX' e with ⟨rfl,z,_⟩ | ⟨_,z⟩
  ·cases z;exact ⟨v,hv,ok⟩
  ·exact r.slot j q' z
 dist:=fun j k q1 q2 w e e' m1 m2 s1 s2=>by
  rcases aX' e with ⟨rfl,z,_⟩ | ⟨n1,z⟩
  ·cases z
   rcases aX' e' with ⟨rfl,z',_⟩ | ⟨n2,z'⟩
   ·rfl
   ·obtain ⟨p,xs,e1,_⟩:=ok.mt m1
    rw [hv] at s1;cases s1
    exact absurd (e1▸s2) (ha m1 p e1 k q2 n2 z' m2)
  ·rcases aX' e' with ⟨rfl,z',_⟩ | ⟨n2,z'⟩
   ·cases z'
    obtain ⟨p,xs,e1,_⟩:=ok.mt m2
    rw [hv] at s2;cases s2
    exact absurd (e1▸s1) (ha m2 p e1 j q1 n1 z m1)
   ·exact r.dist j k q1 q2 w z z' m1 m2 s1 s2
 bor:=fun j ds e=>by
  rcases aX' e with ⟨rfl,z,_⟩ | ⟨_,z⟩
  ·cases z;exact hb ds rfl
  ·exact r.bor j ds z
theorem Rep.store (r:Rep K B G I H σ Γ){i:Nat}{q:R}{v:V} (hi:i < σ.length) (ok:SlotOk K G I H q v) (ha:q.ptr=true->∀ p,v=.ref p->Apart σ Γ p) (hb:∀ ds,q≠.bor ds):Rep K B G I H (σ.set i (some v)) (Γ.set i (some q)):=by
 have r1:Rep K B G I H (σ.set i (some v)) (Γ.set i none):={
  iH:=r.iH,gH:=r.gH,len:=by rw [List.length_set,List.length_set];exact r.len
  slot:=fun j q' e=>by
   rcases aX' e with ⟨_,z,_⟩ | ⟨n,z⟩
   ·cases z
   ·rw [List.getElem?_set_ne (Ne.symm n)];exact r.slot j q' z
  dist:=fun j k q1 q2 w e e' m1 m2 s1 s2=>by
   rcases aX' e with ⟨_,z,_⟩ | ⟨n1,z⟩
   ·cases z
   rcases aX' e' with ⟨_,z',_⟩ | ⟨n2,z'⟩
   ·cases z'
   rw [List.getElem?_set_ne (Ne.symm n1)] at s1
   rw [List.getElem?_set_ne (Ne.symm n2)] at s2
   exact r.dist j k q1 q2 w z z' m1 m2 s1 s2
  bor:=fun j ds e=>by
   rcases aX' e with ⟨_,z,_⟩ | ⟨n,z⟩
   ·cases z
   ·rw [List.getElem?_set_ne (Ne.symm n)];exact r.bor j ds z }
 have r2:=r1.learn (i:=i) (q:=q) (v:=v) (by rw [List.getElem?_set_self hi]) ok (fun m p e j q' n z m' s=>by
  rcases aX' z with ⟨_,z',_⟩ | ⟨_,z'⟩
  ·cases z'
  ·rw [List.getElem?_set_ne (Ne.symm n)] at s
   exact ha m p e j q' z' m' s) (fun ds e=>absurd e (hb ds))
 rw [List.set_set] at r2
 exact r2
theorem Rep.write (r:Rep K B G I H σ Γ){i:Nat}{q q':R}{p:Addr}{xs ys:List V}{ds:List D} (hq:Γ[i]?=some (some q)) (hm:q.ptr=true) (hs:σ[i]?=some (some (.ref p))) (h:H p=some (.lst xs)) (hq':q'=.own ds\/(q'=.bor ds/\∃ es,q=.bor es)) (hd:IsA K I ds ys) :
  Rep K B G I (upd H p (.lst ys)) σ (Γ.set i (some q')):=by
 obtain ⟨v,e1,e2⟩:=r.slot i q hq
 obtain ⟨p',xs',h1,h2,h3,h4⟩:=e2.mt hm
 have hp:p'=p:=by rw [hs] at e1;subst h1;cases e1;rfl
 subst hp
 have other:∀ (j:Nat) (r':R),j≠i->Γ[j]?=some (some r')->r'.ptr=true->σ[j]?≠some (some (.ref p')):=fun j r' n z m s=>n (r.dist j i r' q _ z hq m hm s hs)
 have sI:Same I (upd H p' (.lst ys)):=fun b u z=>by
  have ne:b≠p':=fun e=>by subst e;rw [h3] at z;cases z
  rw [am' ne];exact r.iH b u z
 have sG:Same G (upd H p' (.lst ys)):=fun b u z=>by
  have ne:b≠p':=fun e=>by subst e;rw [h4] at z;cases z
  rw [am' ne];exact r.gH b u z
 have r1:Rep K B G I (upd H p' (.lst ys)) σ (Γ.set i none):={
  iH:=sI,gH:=sG,len:=by rw [List.length_set];exact r.len
  slot:=fun j q1 e=>by
   rcases aX' e with ⟨_,z,_⟩ | ⟨n,z⟩
   ·cases z
   obtain ⟨w,e3,e4⟩:=r.slot j q1 z
   refine ⟨w,e3,?_⟩
   have mt:q1.ptr=true->∀ ds,Mt K G I H ds w->Mt K G I (upd H p' (.lst ys)) ds w:=fun m ds hh=>by
    obtain ⟨p2,xs2,g1,g2,g3,g4,g5⟩:=hh
    refine ⟨p2,xs2,g1,?_,g3,g4,g5⟩
    have ne:p2≠p':=fun z2=>other j q1 n z m (by rw [e3,g1,z2])
    rw [am' ne];exact g2
   cases q1 with
   | val d=>exact e4
   | dic ds =>
    obtain ⟨p2,xs2,g1,g2,g3,g4,g5⟩:=e4
    refine ⟨p2,xs2,g1,?_,g3,g4,g5⟩
    have ne:p2≠p':=fun z2=>other j _ n z rfl (by rw [e3,g1,z2])
    rw [am' ne];exact g2
   | own ds=>exact mt rfl ds e4
   | bor ds=>exact mt rfl ds e4
   | fro ds=>exact e4
  dist:=(r.forget i).dist
  bor:=(r.forget i).bor }
 have mtok:Mt K G I (upd H p' (.lst ys)) ds (.ref p'):=⟨p',ys,rfl,au',h3,h4,hd⟩
 have r2:=r1.learn (i:=i) (q:=q') (v:=.ref p') hs (by rcases hq' with rfl | ⟨rfl,_⟩<;>exact mtok) (fun m p2 e j r' n z m' s=>by
  cases e
  rcases aX' z with ⟨_,z',_⟩ | ⟨_,z'⟩
  ·cases z'
  ·exact other j r' n z' m' s) (fun es e=>by
  rcases hq' with rfl | ⟨rfl,es',rfl⟩
  ·cases e
  ·exact r.bor i es' hq)
 rw [List.set_set] at r2
 exact r2
end
end DL
namespace DL
open PySem PySem.Spec PyProof.Rows L2
abbrev M (α:Type):=Gm->Option (α×Gm)
def ret {α:Type} (a:α):M α:=fun Γ=>some (a,Γ)
def bnd {α β:Type} (m:M α) (f:α->M β):M β:=fun Γ=>match m Γ with
 | some (a,Γ1)=>f a Γ1
 | none=>none
def lft {α:Type} (o:Option α):M α:=fun Γ=>match o with
 | some a=>some (a,Γ)
 | none=>none
theorem ai' {α β:Type}{m:M α}{f:α->M β}{Γ:Gm}{b:β}{Γ':Gm} (h:bnd m f Γ=some (b,Γ')):∃ a Γ1,m Γ=some (a,Γ1)/\f a Γ1=some (b,Γ'):=by
 unfold bnd at h
 cases e:m Γ with
 | none=>rw [e] at h;cases h
 | some q=>obtain ⟨a,Γ1⟩:=q;rw [e] at h;exact ⟨a,Γ1,rfl,h⟩
theorem ay' {α:Type}{o:Option α}{Γ Γ':Gm}{a:α} (h:lft o Γ=some (a,Γ')):o=some a/\Γ'=Γ:=by
 unfold lft at h
 cases o with
 | none=>cases h
 | some b=>cases h;exact ⟨rfl,rfl⟩
section
variable (K:PySem.W.Frag) (B:Nat->Option (Option V))
def KD (G I:Hp) (σ:L2.St) (Γ':Gm) (d:D) (Q:VK):Prop:=∀ v H' I',Rep K B G I' H' σ Γ'->Grow G I I'->Is K I' d v->Q v H'
def KO (G I:Hp) (σ:L2.St) (Γ':Gm) (ds:List D) (Q:VK):Prop:=∀ p xs H' I',Rep K B G I' H' σ Γ'->Grow G I I'->H' p=some (.lst xs)->I' p=none->G p=none->Apart σ Γ' p->IsA K I' ds xs->Q (.ref p) H'
def KT (G I:Hp) (σ:L2.St) (Γ':Gm) (b:Bool) (Q:Bool->Hp->Prop):Prop:=∀ H' I',Rep K B G I' H' σ Γ'->Grow G I I'->Q b H'
def KA (G I:Hp) (σ:L2.St) (Γ':Gm) (ds:List D) (Q:List V->Hp->Prop):Prop:=∀ vs H' I',Rep K B G I' H' σ Γ'->Grow G I I'->IsA K I' ds vs->Q vs H'
def tD (g:M D):TE:=fun σ H Q=>∃ G I Γ d Γ',Rep K B G I H σ Γ/\g Γ=some (d,Γ')/\KD K B G I σ Γ' d Q
def tO (g:M (List D)):TE:=fun σ H Q=>∃ G I Γ ds Γ',Rep K B G I H σ Γ/\g Γ=some (ds,Γ')/\KO K B G I σ Γ' ds Q
def tTD (g:M Bool):TT:=fun σ H Q=>∃ G I Γ b Γ',Rep K B G I H σ Γ/\g Γ=some (b,Γ')/\KT K B G I σ Γ' b Q
def tAD (g:M (List D)):TA:=fun σ H Q=>∃ G I Γ ds Γ',Rep K B G I H σ Γ/\g Γ=some (ds,Γ')/\KA K B G I σ Γ' ds Q
end
abbrev BB:=Nat->Option (Option V)
def ED (X:Cx) (B:BB) (e:Expr) (g:M D):Prop:=PE X e (tD X.K B g)
def EO (X:Cx) (B:BB) (e:Expr) (g:M (List D)):Prop:=PE X e (tO X.K B g)
def TD (X:Cx) (B:BB) (e:Expr) (g:M Bool):Prop:=PT X e (tTD X.K B g)
def TW (X:Cx) (B:BB) (e:Expr) (g:M Bool):Prop:=PW X e (tTD X.K B g)
def AD (X:Cx) (B:BB) (es:List Expr) (g:M (List D)):Prop:=PA X es (tAD X.K B g)
section
variable {X:Cx}{e:Expr}
theorem PE.imp {t t':TE} (h:PE X e t) (f:∀ σ H Q,t' σ H Q->t σ H Q):PE X e t':=fun pins s σ H Q I q=>h pins s σ H Q I (f σ H Q q)
theorem PT.imp {t t':TT} (h:PT X e t) (f:∀ σ H Q,t' σ H Q->t σ H Q):PT X e t':=fun pins s σ H Q I q=>h pins s σ H Q I (f σ H Q q)
theorem PW.imp {t t':TT} (h:PW X e t) (f:∀ σ H Q,t' σ H Q->t σ H Q):PW X e t':=fun wh pins s σ H Q I q=>h wh pins s σ H Q I (f σ H Q q)
theorem PA.imp {es:List Expr}{t t':TA} (h:PA X es t) (f:∀ σ H Q,t' σ H Q->t σ H Q):PA X es t':=fun pos pins s σ H Q I q=>h pos pins s σ H Q I (f σ H Q q)
end
section
variable {K:PySem.W.Frag}{B:BB}{G I I1 I2 H H1:Hp}{σ:L2.St}{Γ Γ1 Γ':Gm}{d:D}{ds:List D}{Q:VK}
theorem KD.now (k:KD K B G I σ Γ d Q) (r:Rep K B G I H σ Γ){v:V} (h:Is K I d v):Q v H:=k v H I r (Grow.refl _ _) h
theorem KD.after (k:KD K B G I σ Γ' d Q) (g:Grow G I I1):KD K B G I1 σ Γ' d Q:=fun v H' I' r g' h=>k v H' I' r (g.trans g') h
theorem KO.after (k:KO K B G I σ Γ' ds Q) (g:Grow G I I1):KO K B G I1 σ Γ' ds Q:=fun p xs H' I' r g'=>k p xs H' I' r (g.trans g')
theorem KT.after {b:Bool}{Q:Bool->Hp->Prop} (k:KT K B G I σ Γ' b Q) (g:Grow G I I1):KT K B G I1 σ Γ' b Q:=fun H' I' r g'=>k H' I' r (g.trans g')
theorem KD.tup (k:KD K B G I σ Γ (.tup ds) Q) (r:Rep K B G I H σ Γ){p:Addr}{xs:List V} (hp:H p=none) (h:IsA K I ds xs):Q (.ref p) (upd H p (.tup xs)) :=
 k _ _ _ (r.alloc hp _) (r.growAlloc hp _) (Is.tup (SqT.of au') (h.mono (aW' (r.iFree hp) _)))
theorem KO.new (k:KO K B G I σ Γ ds Q) (r:Rep K B G I H σ Γ){p:Addr}{xs:List V} (hp:H p=none) (h:IsA K I ds xs):Q (.ref p) (upd H p (.lst xs)) :=
 k p xs _ I (r.fresh hp _) (Grow.refl _ _) au' (r.iFree hp) (r.gFree hp) (r.apart hp) h
end
section
variable {X:Cx}{B:BB}{a b c e:Expr}{es:List Expr}{pos:Pos}{ga gb gc:M D}
def frz (g:M (List D)):M D:=bnd g fun ds=>ret (.lst ds)
theorem aw' {g:M (List D)} (h:EO X B e g):ED X B e (frz g):=PE.imp h fun σ H Q q=>by
 obtain ⟨G,I,Γ,d,Γ',r,e1,k⟩:=q
 obtain ⟨ds,Γ1,e2,e3⟩:=ai' e1
 cases e3
 refine ⟨G,I,Γ,ds,_,r,e2,fun p xs H' I' r' g h1 h2 h3 h4 h5=>?_⟩
 exact k _ _ _ (r'.freeze h1 h2 h4) (g.trans (growFreeze h2 h3)) (Is.lst (RdK.of au') (h5.mono (aW' h2 _)))
def nm (i:Nat):M D:=fun Γ=>match Γ[i]? with
 | some (some (.val d))=>some (d,Γ)
 | some (some (.own ds))=>some (.lst ds,Γ.set i (some (.val (.lst ds))))
 | some (some (.fro ds))=>some (.lst ds,Γ)
 | _=>none
theorem aa' {i:Nat}{x:Str} (h:PE X (.Name x pos) (tVar i)):ED X B (.Name x pos) (nm i):=PE.imp h fun σ H Q q=>by
 obtain ⟨G,I,Γ,d,Γ',r,e1,k⟩:=q
 unfold nm at e1
 cases e:Γ[i]? with
 | none=>rw [e] at e1;cases e1
 | some o =>
  cases o with
  | none=>rw [e] at e1;cases e1
  | some q =>
   obtain ⟨v,h1,h2⟩:=r.slot i q e
   cases q with
   | val d'=>rw [e] at e1;cases e1;exact ⟨v,h1,k.now r h2⟩
   | bor ds=>rw [e] at e1;cases e1
   | dic ds=>rw [e] at e1;cases e1
   | fro ds=>rw [e] at e1;cases e1;obtain ⟨p,xs,rfl,f1,f2,f3⟩:=h2;exact ⟨_,h1,k.now r (Is.lst (RdK.of f1) f3)⟩
   | own ds =>
    rw [e] at e1;cases e1
    obtain ⟨p,xs,rfl,g1,g2,g3,g4⟩:=h2
    refine ⟨_,h1,k _ _ (upd I p (.lst xs)) ?_ (growFreeze g2 g3) (Is.lst (RdK.of au') (g4.mono (aW' g2 _)))⟩
    have ap:Apart σ (Γ.set i none) p:=fun j q' z m s=>by
     rcases aX' z with ⟨_,z',_⟩ | ⟨n,z'⟩
     ·cases z'
     ·exact n (r.dist j i q' (.own ds) _ z' e m rfl s h1)
    have r1:=(r.forget i).freeze g1 g2 ap
    have r2:=r1.learn (i:=i) (q:=.val (.lst ds)) h1 (Is.lst (RdK.of au') (g4.mono (aW' g2 _))) (fun m=>nomatch m) (fun _ z=>nomatch z)
    rw [List.set_set] at r2
    exact r2
theorem ed_c {d:D}{v:V} (h:PE X e (tC v)) (hd:∀ I,Is X.K I d v):ED X B e (ret d):=PE.imp h fun σ H Q q=>by
 obtain ⟨G,I,Γ,d',Γ',r,e1,k⟩:=q
 cases e1
 exact k.now r (hd I)
theorem ag' {i j}:ED X B (.Constant (.int i) j pos) (ret (.int i)):=ed_c sE' fun _=>Is.int i
theorem dC' {b j}:ED X B (.Constant (.bool b) j pos) (ret (.bl b)):=ed_c tY' fun _=>Is.bl b
theorem fa' {j}:ED X B (.Constant .none j pos) (ret .non):=ed_c sF' fun _=>Is.non
theorem bu' {x j}:ED X B (.Constant (.str x) j pos) (ret (.str x)):=ed_c sG' fun _=>Is.str x
def nilA:M (List D):=ret []
def consA (g:M D) (t:M (List D)):M (List D):=bnd g fun d=>bnd t fun ds=>ret (d::ds)
theorem ac':AD X B [] nilA:=PA.imp gG' fun σ H Q q=>by
 obtain ⟨G,I,Γ,d,Γ',r,e1,k⟩:=q
 cases e1
 exact k _ _ _ r (Grow.refl _ _) IsA.nil
theorem rP' {g:M D}{t:M (List D)} (ha:ED X B e g) (hr:AD X B es t) (hs:starEach (e::es) X.env=(false,eval e X.env)::starEach es X.env:=by rfl):AD X B (e::es) (consA g t) :=
 PA.imp (c3' ha hr hs) fun σ H Q q=>by
  obtain ⟨G,I,Γ,d,Γ',r,e1,k⟩:=q
  obtain ⟨d1,Γ1,e2,e3⟩:=ai' e1
  obtain ⟨d2,Γ2,e4,e5⟩:=ai' e3
  cases e5
  exact ⟨G,I,Γ,d1,Γ1,r,e2,fun v H1 I1 r1 g1 h1=>⟨G,I1,Γ1,d2,_,r1,e4,fun vs H2 I2 r2 g2 h2=>k _ _ _ r2 (g1.trans g2) (IsA.cons (h1.mono g2.up) h2)⟩⟩
def lim:Nat:=1000000
theorem fb' {n:Nat} (h:n<=lim):n<=sizeLine:=Nat.le_trans h (by rw [sizeLine_eq];decide)
def tupA (t:M (List D)):M D:=bnd t fun ds=>lft (if ds.length<=lim then some (.tup ds) else none)
def lstA (t:M (List D)):M (List D):=bnd t fun ds=>lft (if ds.length<=lim then some ds else none)
theorem aQ' {α:Type}{c:Prop} [Decidable c]{a b:α} (h:(if c then some a else none)=some b):c/\b=a:=by
 by_cases hc:c
 ·rw [if_pos hc] at h;exact ⟨hc,(Option.some.inj h).symm⟩
 ·rw [if_neg hc] at h;cases h
theorem aN' {x1}{t:M (List D)} (h:AD X B es t):ED X B (.Tuple es x1 pos) (tupA t):=PE.imp (sW' h) fun σ H Q q=>by
 obtain ⟨G,I,Γ,d,Γ',r,e1,k⟩:=q
 obtain ⟨d1,Γ1,e2,e3⟩:=ai' e1
 obtain ⟨e4,rfl⟩:=ay' e3
 obtain ⟨hl,rfl⟩:=aQ' e4
 refine ⟨G,I,Γ,d1,_,r,e2,fun vs H1 I1 r1 g1 h1=>⟨?_,fun p hp=>(k.after g1).tup r1 hp h1⟩⟩
 rw [← h1.length];exact fb' hl
theorem aO' {t:M (List D)} (h:AD X B es t):EO X B (.List es pos) (lstA t):=PE.imp (sX' h) fun σ H Q q=>by
 obtain ⟨G,I,Γ,d,Γ',r,e1,k⟩:=q
 obtain ⟨d1,Γ1,e2,e3⟩:=ai' e1
 obtain ⟨e4,rfl⟩:=ay' e3
 obtain ⟨hl,rfl⟩:=aQ' e4
 refine ⟨G,I,Γ,_,_,r,e2,fun vs H1 I1 r1 g1 h1=>⟨?_,fun p hp=>(k.after g1).new r1 hp h1⟩⟩
 rw [← h1.length];exact fb' hl
def OpD (K:PySem.W.Frag) (r:R2) (F:D->D->Option D):Prop:=∀ a b d,F a b=some d->∀ (B:BB) (G I H:Hp) (σ:L2.St) (Γ:Gm) (x y:V) (Q:VK),Rep K B G I H σ Γ->Is K I a x->Is K I b y->KD K B G I σ Γ d Q->r x y H Q
def OpO (K:PySem.W.Frag) (r:R2) (F:D->D->Option (List D)):Prop:=∀ a b d,F a b=some d->∀ (B:BB) (G I H:Hp) (σ:L2.St) (Γ:Gm) (x y:V) (Q:VK),Rep K B G I H σ Γ->Is K I a x->Is K I b y->KO K B G I σ Γ d Q->r x y H Q
def CallD (K:PySem.W.Frag) (r:List V->Hp->VK->Prop) (F:List D->Option D):Prop:=∀ ds d,F ds=some d->∀ (B:BB) (G I H:Hp) (σ:L2.St) (Γ:Gm) (xs:List V) (Q:VK),Rep K B G I H σ Γ->IsA K I ds xs->KD K B G I σ Γ d Q->r xs H Q
def CallO (K:PySem.W.Frag) (r:List V->Hp->VK->Prop) (F:List D->Option (List D)):Prop:=∀ ds d,F ds=some d->∀ (B:BB) (G I H:Hp) (σ:L2.St) (Γ:Gm) (xs:List V) (Q:VK),Rep K B G I H σ Γ->IsA K I ds xs->KO K B G I σ Γ d Q->r xs H Q
def op2 {α:Type} (F:D->D->Option α) (ga gb:M D):M α:=bnd ga fun x=>bnd gb fun y=>lft (F x y)
def fn1 {α:Type} (F:List D->Option α) (t:M (List D)):M α:=bnd t fun ds=>lft (F ds)
theorem t_op {r:R2}{F:D->D->Option D}{K:PySem.W.Frag} (h:OpD K r F):∀ σ H Q,tD K B (op2 F ga gb) σ H Q->tOp r (tD K B ga) (tD K B gb) σ H Q:=fun σ H Q q=>by
 obtain ⟨G,I,Γ,d,Γ',r,e1,k⟩:=q
 obtain ⟨d1,Γ1,e2,e3⟩:=ai' e1
 obtain ⟨d2,Γ2,e4,e5⟩:=ai' e3
 obtain ⟨e6,rfl⟩:=ay' e5
 exact ⟨G,I,Γ,d1,Γ1,r,e2,fun v H1 I1 r1 g1 h1=>⟨G,I1,Γ1,d2,_,r1,e4,fun w H2 I2 r2 g2 h2=>h _ _ _ e6 B G I2 H2 σ _ v w Q r2 (h1.mono g2.up) h2 (k.after (g1.trans g2))⟩⟩
theorem t5' {r:R2}{F:D->D->Option (List D)}{K:PySem.W.Frag} (h:OpO K r F):∀ σ H Q,tO K B (op2 F ga gb) σ H Q->tOp r (tD K B ga) (tD K B gb) σ H Q:=fun σ H Q q=>by
 obtain ⟨G,I,Γ,d,Γ',r,e1,k⟩:=q
 obtain ⟨d1,Γ1,e2,e3⟩:=ai' e1
 obtain ⟨d2,Γ2,e4,e5⟩:=ai' e3
 obtain ⟨e6,rfl⟩:=ay' e5
 exact ⟨G,I,Γ,d1,Γ1,r,e2,fun v H1 I1 r1 g1 h1=>⟨G,I1,Γ1,d2,_,r1,e4,fun w H2 I2 r2 g2 h2=>h _ _ _ e6 B G I2 H2 σ _ v w Q r2 (h1.mono g2.up) h2 (k.after (g1.trans g2))⟩⟩
theorem hE' {op:Operator}{r:R2}{F:D->D->Option D} (ho:OpR X (binaryOp op) r) (h:OpD X.K r F) (ha:ED X B a ga) (hb:ED X B b gb):ED X B (.BinOp a op b pos) (op2 F ga gb):=PE.imp (ri' ho ha hb) (t_op h)
theorem t6' {op:Operator}{r:R2}{F:D->D->Option (List D)} (ho:OpR X (binaryOp op) r) (h:OpO X.K r F) (ha:ED X B a ga) (hb:ED X B b gb):EO X B (.BinOp a op b pos) (op2 F ga gb):=PE.imp (ri' ho ha hb) (t5' h)
theorem gI' {op:CmpOp}{r:R2}{F:D->D->Option D} (ho:OpR X (compareOp op) r) (h:OpD X.K r F) (ha:ED X B a ga) (hb:ED X B b gb) (hm:behindInMarks op b=false:=by first | exact nomark _ | rfl):ED X B (.Compare a [op] [b] pos) (op2 F ga gb):=PE.imp (rK' ho ha hb hm) (t_op h)
theorem t7' {r:R2}{F:D->D->Option D} (ho:IxR X r) (h:OpD X.K r F) (ha:ED X B a ga) (hb:ED X B b gb) (hs:PlainIx b:=by exact fun _ _=>rfl):ED X B (.Subscript a b pos) (op2 F ga gb):=PE.imp (rl' ho ha hb hs) (t_op h)
def asB (d:D):Option Bool:=match d with
 | .bl b=>some b
 | _=>none
theorem jf' {d:D}{b:Bool} (h:asB d=some b):d=.bl b:=by
 cases d<;>simp [asB] at h
 rw [h]
def tst (g:M D):M Bool:=bnd g fun d=>lft (asB d)
theorem iH' {K:PySem.W.Frag}{g:M D}{t:TE} (ht:∀ σ H Q,tD K B g σ H Q->t σ H Q):∀ σ H Q,tTD K B (tst g) σ H Q->tTest t σ H Q:=fun σ H Q q=>by
 obtain ⟨G,I,Γ,d,Γ',r,e1,k⟩:=q
 obtain ⟨d1,Γ1,e2,e3⟩:=ai' e1
 obtain ⟨e4,rfl⟩:=ay' e3
 have:=jf' e4
 subst this
 exact ht _ _ _ ⟨G,I,Γ,_,_,r,e2,fun v H1 I1 r1 g1 h1=>⟨d,cj' h1,k _ _ r1 g1⟩⟩
theorem dW' {op:CmpOp}{r:R2}{F:D->D->Option D} (ho:OpR X (compareOp op) r) (h:OpD X.K r F) (ha:ED X B a ga) (hb:ED X B b gb) (hm:behindInMarks op b=false:=by first | exact nomark _ | rfl):TD X B (.Compare a [op] [b] pos) (tst (op2 F ga gb)):=PT.imp (je' ho ha hb hm) (iH' (t_op h))
theorem bW' (ha:ED X B a ga) (he:∀ whole,isTrue a X.env whole=(do let v ← whole;standAt a.pos;holding [v] (truthy v)):=by intro _;rfl):TD X B a (tst ga):=PT.imp (sH' ha he) (iH' fun _ _ _ z=>z)
def chn (F F':D->D->Option D) (ga gb gc:M D):M D:=bnd ga fun x=>bnd gb fun y=>bnd (lft (F x y)) fun z=>bnd (lft (asB z)) fun k=>if k then bnd gc fun w=>lft (F' y w) else ret (.bl false)
theorem t8' {r r':R2}{F F':D->D->Option D}{K:PySem.W.Frag} (h:OpD K r F) (h':OpD K r' F'):∀ σ H Q,tD K B (chn F F' ga gb gc) σ H Q->tChain r r' (tD K B ga) (tD K B gb) (tD K B gc) σ H Q:=fun σ H Q q=>by
 obtain ⟨G,I,Γ,d,Γ',r,e1,k⟩:=q
 obtain ⟨d1,Γ1,e2,e3⟩:=ai' e1
 obtain ⟨d2,Γ2,e4,e5⟩:=ai' e3
 obtain ⟨d3,Γ3,e6,e7⟩:=ai' e5
 obtain ⟨e8,rfl⟩:=ay' e6
 obtain ⟨k1,Γ4,e9,f1⟩:=ai' e7
 obtain ⟨f2,rfl⟩:=ay' e9
 have:=jf' f2
 subst this
 refine ⟨G,I,Γ,d1,Γ1,r,e2,fun v H1 I1 r1 g1 h1=>⟨G,I1,Γ1,d2,Γ4,r1,e4,fun w H2 I2 r2 g2 h2=>h _ _ _ e8 B G I2 H2 σ Γ4 v w _ r2 (h1.mono g2.up) h2 fun u H3 I3 r3 g3 h3=>⟨k1,cj' h3,?_⟩⟩⟩
 cases k1 with
 | false=>cases f1;exact iteF (k _ _ _ r3 (g1.trans (g2.trans g3)) (Is.bl false))
 | true =>
  obtain ⟨d4,Γ5,f3,f4⟩:=ai' f1
  obtain ⟨f5,rfl⟩:=ay' f4
  exact iteT ⟨G,I3,Γ4,d4,_,r3,f3,fun z H4 I4 r4 g4 h4=>h' _ _ _ f5 B G I4 H4 σ _ w z Q r4 (h2.mono (g3.trans g4).up) h4 (k.after (g1.trans (g2.trans (g3.trans g4))))⟩
theorem s5' {op op':CmpOp}{r r':R2}{F F':D->D->Option D} (ho:OpR X (compareOp op) r) (h:OpD X.K r F) (ho':OpR X (compareOp op') r') (h':OpD X.K r' F') (ha:ED X B a ga) (hb:ED X B b gb) (hc:ED X B c gc)
  (hm:lastMarks [op,op'] [b,c]=false:=by with_unfolding_all rfl):TD X B (.Compare a [op,op'] [b,c] pos) (tst (chn F F' ga gb gc)):=PT.imp (qt' ho ho' ha hb hc hm) (iH' (t8' h h'))
def andT (a b:M Bool):M Bool:=bnd a fun k=>if k then b else ret false
def orT (a b:M Bool):M Bool:=bnd a fun k=>if k then ret true else b
def notT (a:M Bool):M Bool:=bnd a fun k=>ret (!k)
def andV (a b:M D):M D:=bnd a fun d=>bnd (lft (asB d)) fun k=>if k then b else ret (.bl false)
def orV (a b:M D):M D:=bnd a fun d=>bnd (lft (asB d)) fun k=>if k then ret (.bl true) else b
def notV (a:M D):M D:=bnd a fun d=>bnd (lft (asB d)) fun k=>ret (.bl (!k))
def ifV (c:M Bool) (a b:M D):M D:=bnd c fun k=>if k then a else b
variable {ta tb:M Bool}{rest:List Expr}
theorem eb' (ha:TD X B a ta):TW X B (.BoolOp .And [a] pos) ta:=rE' ha
theorem dX' (ha:TD X B a ta):TW X B (.BoolOp .Or [a] pos) ta:=sI' ha
theorem fc' (ha:TD X B a ta) (hb:TW X B (.BoolOp .And (b::rest) pos) tb):TW X B (.BoolOp .And (a::b::rest) pos) (andT ta tb):=PW.imp (sJ' ha hb) fun σ H Q q=>by
 obtain ⟨G,I,Γ,d,Γ',r,e1,k⟩:=q
 obtain ⟨d1,Γ1,e2,e3⟩:=ai' e1
 refine ⟨G,I,Γ,d1,Γ1,r,e2,fun H1 I1 r1 g1=>?_⟩
 cases d1 with
 | true=>exact iteT ⟨G,I1,Γ1,d,Γ',r1,e3,k.after g1⟩
 | false=>cases e3;exact iteF (k _ _ r1 g1)
theorem eP' (ha:TD X B a ta) (hb:TW X B (.BoolOp .Or (b::rest) pos) tb):TW X B (.BoolOp .Or (a::b::rest) pos) (orT ta tb):=PW.imp (tZ' ha hb) fun σ H Q q=>by
 obtain ⟨G,I,Γ,d,Γ',r,e1,k⟩:=q
 obtain ⟨d1,Γ1,e2,e3⟩:=ai' e1
 refine ⟨G,I,Γ,d1,Γ1,r,e2,fun H1 I1 r1 g1=>?_⟩
 cases d1 with
 | false=>exact iteF ⟨G,I1,Γ1,d,Γ',r1,e3,k.after g1⟩
 | true=>cases e3;exact iteT (k _ _ r1 g1)
theorem TW.td (h:TW X B e ta):TD X B e ta:=h _
theorem fd' (ha:TD X B a ta):TD X B (.UnaryOp .Not a pos) (notT ta):=PT.imp (sK' ha) fun σ H Q q=>by
 obtain ⟨G,I,Γ,d,Γ',r,e1,k⟩:=q
 obtain ⟨d1,Γ1,e2,e3⟩:=ai' e1
 cases e3
 exact ⟨G,I,Γ,d1,_,r,e2,fun H1 I1 r1 g1=>k _ _ r1 g1⟩
theorem fe' {op} (h:ED X B a ga):ED X B (.BoolOp op [a] pos) ga:=sL' h
theorem ey' (ha:ED X B a ga) (hb:ED X B (.BoolOp .And (b::rest) pos) gb):ED X B (.BoolOp .And (a::b::rest) pos) (andV ga gb):=PE.imp (sM' ha hb) fun σ H Q q=>by
 obtain ⟨G,I,Γ,d,Γ',r,e1,k⟩:=q
 obtain ⟨d1,Γ1,e2,e3⟩:=ai' e1
 obtain ⟨k1,Γ2,e4,e5⟩:=ai' e3
 obtain ⟨e6,rfl⟩:=ay' e4
 have:=jf' e6
 subst this
 refine ⟨G,I,Γ,_,_,r,e2,fun v H1 I1 r1 g1 h1=>⟨k1,cj' h1,?_⟩⟩
 cases k1 with
 | true=>exact iteT ⟨G,I1,_,d,Γ',r1,e5,k.after g1⟩
 | false=>cases e5;exact iteF (k _ _ _ r1 g1 (Is.bl false))
theorem s6' (hc:TD X B c ta) (ha:ED X B a ga) (hb:ED X B b gb):ED X B (.IfExp c a b pos) (ifV ta ga gb):=PE.imp (qn' hc ha hb) fun σ H Q q=>by
 obtain ⟨G,I,Γ,d,Γ',r,e1,k⟩:=q
 obtain ⟨d1,Γ1,e2,e3⟩:=ai' e1
 refine ⟨G,I,Γ,d1,Γ1,r,e2,fun H1 I1 r1 g1=>?_⟩
 cases d1 with
 | true=>exact iteT ⟨G,I1,Γ1,d,Γ',r1,e3,k.after g1⟩
 | false=>exact iteF ⟨G,I1,Γ1,d,Γ',r1,e3,k.after g1⟩
variable {x:Str}{p:Pos}{id T:String}{r:List V->Hp->VK->Prop}{t:M (List D)}
theorem t_fn {F:List D->Option D}{K:PySem.W.Frag} (h:CallD K r F):∀ σ H Q,tD K B (fn1 F t) σ H Q->tCB r (tAD K B t) σ H Q:=fun σ H Q q=>by
 obtain ⟨G,I,Γ,d,Γ',r,e1,k⟩:=q
 obtain ⟨d1,Γ1,e2,e3⟩:=ai' e1
 obtain ⟨e4,rfl⟩:=ay' e3
 exact ⟨G,I,Γ,d1,_,r,e2,fun vs H1 I1 r1 g1 h1=>h _ _ e4 B G I1 H1 σ _ vs Q r1 h1 (k.after g1)⟩
theorem nZ' {F:List D->Option (List D)}{K:PySem.W.Frag} (h:CallO K r F):∀ σ H Q,tO K B (fn1 F t) σ H Q->tCB r (tAD K B t) σ H Q:=fun σ H Q q=>by
 obtain ⟨G,I,Γ,d,Γ',r,e1,k⟩:=q
 obtain ⟨d1,Γ1,e2,e3⟩:=ai' e1
 obtain ⟨e4,rfl⟩:=ay' e3
 exact ⟨G,I,Γ,d1,_,r,e2,fun vs H1 I1 r1 g1 h1=>h _ _ e4 B G I1 H1 σ _ vs Q r1 h1 (k.after g1)⟩
theorem f1' {F:List D->Option D} (hc:CallR X (.builtin id) r) (h:CallD X.K r F) (hg:Gl X x) (hm:X.mg x=none) (hv:bootBuiltins x=some (.builtin id)) (ha:AD X B (e::es) t) (hn:x ≠ "__name__":=by decide) (hdb:(x == ("__debug__":Str))=false:=by decide)
  (he:starEach (e::es) X.env=(false,eval e X.env)::starEach es X.env:=by rfl) (hpl:(backTo pos (starEach es X.env)).any (·.1)=false:=by rfl):ED X B (.Call (.Name x p) (e::es) [] pos) (fn1 F t):=PE.imp (gc' hc hg hm hv ha hn hdb he hpl) (t_fn h)
theorem s7' {F:List D->Option (List D)} (hc:CallR X (.builtin id) r) (h:CallO X.K r F) (hg:Gl X x) (hm:X.mg x=none) (hv:bootBuiltins x=some (.builtin id)) (ha:AD X B (e::es) t) (hn:x ≠ "__name__":=by decide) (hdb:(x == ("__debug__":Str))=false:=by decide)
  (he:starEach (e::es) X.env=(false,eval e X.env)::starEach es X.env:=by rfl) (hpl:(backTo pos (starEach es X.env)).any (·.1)=false:=by rfl):EO X B (.Call (.Name x p) (e::es) [] pos) (fn1 F t):=PE.imp (gc' hc hg hm hv ha hn hdb he hpl) (nZ' h)
theorem s8' {F:List D->Option D} (hc:CallR X (.type T) r) (h:CallD X.K r F) (hg:Gl X x) (hm:X.mg x=none) (hv:bootBuiltins x=some (.type T)) (ha:AD X B (e::es) t) (hn:x ≠ "__name__":=by decide) (hdb:(x == ("__debug__":Str))=false:=by decide)
  (he:starEach (e::es) X.env=(false,eval e X.env)::starEach es X.env:=by rfl) (hpl:(backTo pos (starEach es X.env)).any (·.1)=false:=by rfl):ED X B (.Call (.Name x p) (e::es) [] pos) (fn1 F t):=PE.imp (jW' hc hg hm hv ha hn hdb he hpl) (t_fn h)
theorem s9' {F:List D->Option (List D)} (hc:CallR X (.type T) r) (h:CallO X.K r F) (hg:Gl X x) (hm:X.mg x=none) (hv:bootBuiltins x=some (.type T)) (ha:AD X B (e::es) t) (hn:x ≠ "__name__":=by decide) (hdb:(x == ("__debug__":Str))=false:=by decide)
  (he:starEach (e::es) X.env=(false,eval e X.env)::starEach es X.env:=by rfl) (hpl:(backTo pos (starEach es X.env)).any (·.1)=false:=by rfl):EO X B (.Call (.Name x p) (e::es) [] pos) (fn1 F t):=PE.imp (jW' hc hg hm hv ha hn hdb he hpl) (nZ' h)
end
end DL
namespace DL
open PySem PySem.Spec PyProof.Rows L2
inductive Fl where
 | nx | rt (r:R) | bk | ct
def ResOk (K:PySem.W.Frag) (G I H:Hp) (σ:L2.St) (Γ:Gm):R->V->Prop
 | .val d,v=>Is K I d v
 | .own ds,v=>∃ p xs,v=.ref p/\H p=some (.lst xs)/\I p=none/\G p=none/\Apart σ Γ p/\IsA K I ds xs
 | .bor _,_=>False
 | .fro ds,v=>∃ p xs,v=.ref p/\I p=some (.lst xs)/\G p=none/\IsA K I ds xs
 | .dic kvs,v=>∃ p xs,v=.ref p/\H p=some (.dK xs)/\I p=none/\G p=none/\Apart σ Γ p/\IsK K I kvs xs
def EndAt (K:PySem.W.Frag) (G I H:Hp) (σ:L2.St) (Γ:Gm) (E:Ends):Fl->Prop
 | .nx=>E.nx σ H
 | .bk=>E.bk σ H
 | .ct=>E.ct σ H
 | .rt r=>∀ v,ResOk K G I H σ Γ r v->E.rt v H
section
variable (K:PySem.W.Frag) (B:BB)
def KS (G I:Hp) (Γ':Gm) (f:Fl) (E:Ends):Prop:=∀ σ' H' I',Rep K B G I' H' σ' Γ'->Grow G I I'->EndAt K G I' H' σ' Γ' E f
def tS (g:M Fl):TS:=fun E σ H=>∃ G I Γ f Γ',Rep K B G I H σ Γ/\g Γ=some (f,Γ')/\KS K B G I Γ' f E
def KG (m:Nat) (σ:L2.St) (G I:Hp) (Γ':Gm) (Q:L2.St->Hp->Prop):Prop:=∀ σ' H' I',Rep K B G I' H' σ' Γ'->Grow G I I'->σ'.drop m=σ.drop m->Q σ' H'
def tGD (m:Nat) (f:D->M Unit):TG:=fun v σ H Q=>∃ G I Γ d Γ',Rep K B G I H σ Γ/\Is K I d v/\f d Γ=some ((),Γ')/\KG K B m σ G I Γ' Q
def tGs (m:Nat) (f:List D->M Unit):TGs:=fun vs σ H Q=>∃ G I Γ ds Γ',Rep K B G I H σ Γ/\IsA K I ds vs/\f ds Γ=some ((),Γ')/\KG K B m σ G I Γ' Q
end
def SD (X:Cx) (B:BB) (st:Stmt) (g:M Fl):Prop:=PS X st (tS X.K B g)
def SDs (X:Cx) (B:BB) (st:List Stmt) (g:M Fl):Prop:=PSs X st (tS X.K B g)
def GD (X:Cx) (B:BB) (m:Nat) (tg:Expr) (f:D->M Unit):Prop:=PG X tg (tGD X.K B m f)
def GDs (X:Cx) (B:BB) (m:Nat) (tgs:List Expr) (f:List D->M Unit):Prop:=PGs X tgs (tGs X.K B m f)
section
variable {X:Cx}
theorem PS.imp {st:Stmt}{t t':TS} (h:PS X st t) (f:∀ E σ H,t' E σ H->t E σ H):PS X st t':=fun pins s σ H E I q=>h pins s σ H E I (f E σ H q)
theorem PSs.imp {st:List Stmt}{t t':TS} (h:PSs X st t) (f:∀ E σ H,t' E σ H->t E σ H):PSs X st t':=fun pins s σ H E I q=>h pins s σ H E I (f E σ H q)
theorem PG.imp {tg:Expr}{t t':TG} (h:PG X tg t) (f:∀ v σ H Q,t' v σ H Q->t v σ H Q):PG X tg t':=fun pins s σ H v u Q I r q=>h pins s σ H v u Q I r (f v σ H Q q)
theorem PGs.imp {tgs:List Expr}{t t':TGs} (h:PGs X tgs t) (f:∀ v σ H Q,t' v σ H Q->t v σ H Q):PGs X tgs t':=fun pins s σ H v u Q I r q=>h pins s σ H v u Q I r (f v σ H Q q)
theorem PI.imp {tg iter:Expr}{t t':TI} (h:PI X tg iter t) (f:∀ σ H Q,t' σ H Q->t σ H Q):PI X tg iter t':=fun pins s σ H R I q=>h pins s σ H R I (f σ H R q)
end
section
variable {K:PySem.W.Frag}{B:BB}{G I I1 H:Hp}{Γ Γ':Gm}{f:Fl}{E:Ends}
theorem KS.after (k:KS K B G I Γ' f E) (g:Grow G I I1):KS K B G I1 Γ' f E:=fun σ' H' I' r g'=>k σ' H' I' r (g.trans g')
theorem KG.after {m:Nat}{σ σ1:L2.St}{Q:L2.St->Hp->Prop} (k:KG K B m σ G I Γ' Q) (g:Grow G I I1) (hs:σ1.drop m=σ.drop m):KG K B m σ1 G I1 Γ' Q:=fun σ' H' I' r g' z=>k σ' H' I' r (g.trans g') (z.trans hs)
end
section
variable {X:Cx}{B:BB}{a b c e:Expr}{es:List Expr}{pos:Pos}{ga gb gc:M D}{st:Stmt}{rest:List Stmt}{g h:M Fl}
def seqS (g h:M Fl):M Fl:=bnd g fun f=>match f with
 | .nx=>h
 | .rt r=>ret (.rt r)
 | .bk=>ret .bk
 | .ct=>ret .ct
theorem rQ':SDs X B [] (ret .nx):=PSs.imp rF' fun E σ H q=>by
 obtain ⟨G,I,Γ,f,Γ',r,e1,k⟩:=q
 cases e1
 exact k σ H I r (Grow.refl _ _)
theorem rR' (h:SD X B st g):SDs X B [st] g:=rG' h
theorem qy' (h1:SD X B st g) (h2:SDs X B rest h):SDs X B (st::rest) (seqS g h):=PSs.imp (qo' h1 h2) fun E σ H q=>by
 obtain ⟨G,I,Γ,f,Γ',r,e1,k⟩:=q
 obtain ⟨f1,Γ1,e2,e3⟩:=ai' e1
 refine ⟨G,I,Γ,f1,Γ1,r,e2,fun σ1 H1 I1 r1 g1=>?_⟩
 cases f1 with
 | nx=>exact ⟨G,I1,Γ1,f,Γ',r1,e3,k.after g1⟩
 | bk=>cases e3;exact k σ1 H1 I1 r1 g1
 | ct=>cases e3;exact k σ1 H1 I1 r1 g1
 | rt v=>cases e3;exact k σ1 H1 I1 r1 g1
theorem ih':SD X B st (fun _=>none):=PS.imp qp' fun E σ H q=>by
 obtain ⟨G,I,Γ,f,Γ',r,e1,k⟩:=q
 cases e1
def dropS (g:M D):M Fl:=bnd g fun _=>ret .nx
theorem c4' (he:ED X B e ga) (hs:swapsWith e none pos.line X.env=pure false:=by rfl):SD X B (.Expr e pos) (dropS ga):=PS.imp (jd' he hs) fun E σ H q=>by
 obtain ⟨G,I,Γ,f,Γ',r,e1,k⟩:=q
 obtain ⟨d1,Γ1,e2,e3⟩:=ai' e1
 cases e3
 exact ⟨G,I,Γ,d1,_,r,e2,fun v H1 I1 r1 g1 h1=>k σ H1 I1 r1 g1⟩
def retS (g:M D):M Fl:=bnd g fun d=>ret (.rt (.val d))
theorem av' (he:ED X B e ga):SD X B (.Return (some e) pos) (retS ga):=PS.imp (k2' he) fun E σ H q=>by
 obtain ⟨G,I,Γ,f,Γ',r,e1,k⟩:=q
 obtain ⟨d1,Γ1,e2,e3⟩:=ai' e1
 cases e3
 exact ⟨G,I,Γ,d1,_,r,e2,fun v H1 I1 r1 g1 h1=>k σ H1 I1 r1 g1 v h1⟩
def retO (g:M (List D)):M Fl:=bnd g fun d=>ret (.rt (.own d))
theorem b8' {g:M (List D)} (he:EO X B e g):SD X B (.Return (some e) pos) (retO g):=PS.imp (k2' he) fun E σ H q=>by
 obtain ⟨G,I,Γ,f,Γ',r,e1,k⟩:=q
 obtain ⟨d1,Γ1,e2,e3⟩:=ai' e1
 cases e3
 exact ⟨G,I,Γ,d1,_,r,e2,fun p xs H1 I1 r1 g1 h1 h2 h3 h4 h5=>k σ H1 I1 r1 g1 _ ⟨p,xs,rfl,h1,h2,h3,h4,h5⟩⟩
def ifS (c:M Bool) (a b:M Fl):M Fl:=bnd c fun k=>if k then a else b
theorem t9' {tc:M Bool}{sa sb:List Stmt} (hc:TD X B c tc) (ha:SDs X B sa g) (hb:SDs X B sb h):SD X B (.If c sa sb pos) (ifS tc g h):=PS.imp (t0' hc ha hb) fun E σ H q=>by
 obtain ⟨G,I,Γ,f,Γ',r,e1,k⟩:=q
 obtain ⟨d1,Γ1,e2,e3⟩:=ai' e1
 refine ⟨G,I,Γ,d1,Γ1,r,e2,fun H1 I1 r1 g1=>?_⟩
 cases d1 with
 | true=>exact iteT ⟨G,I1,Γ1,f,Γ',r1,e3,k.after g1⟩
 | false=>exact iteF ⟨G,I1,Γ1,f,Γ',r1,e3,k.after g1⟩
def putS (i:Nat) (q:R):M Unit:=fun Γ=>if i < Γ.length then some ((),Γ.set i (some q)) else none
def tgN (i:Nat) (d:D):M Unit:=putS i (.val d)
theorem ec' {i:Nat}{q:R}{Γ Γ':Gm}{u:Unit} (h:putS i q Γ=some (u,Γ')):i < Γ.length/\Γ'=Γ.set i (some q):=by
 unfold putS at h
 obtain ⟨h1,h2⟩:=aQ' h
 cases h2
 exact ⟨h1,rfl⟩
theorem k7' {α:Type}:∀ {l:List α}{i m:Nat}{a:α},i < m->(l.set i a).drop m=l.drop m
 | [],_,_,_,_=>rfl
 | _::_,0,m+1,_,_=>rfl
 | _::r,i+1,m+1,a,h=>by
  rw [List.set_cons_succ,List.drop_succ_cons,List.drop_succ_cons]
  exact k7' (Nat.lt_of_succ_lt_succ h)
theorem gd_n {i m:Nat}{x:Str} (hN:X.N.Nodup) (hi:X.N[i]?=some x:=by rfl) (hx:Loc X.env.scope x:=by first | exact Or.inl rfl | exact Or.inr rfl) (hf:X.fn x=true\/X.env.scope.names.lookup x=some .local:=by first | exact .inl rfl | exact .inr rfl) (him:i < m:=by decide):GD X B m (.Name x pos) (tgN i) :=
 PG.imp (rH' hN hi hx hf) fun v σ H Q q=>by
  obtain ⟨G,I,Γ,d,Γ',r,hd,e1,k⟩:=q
  obtain ⟨hl,rfl⟩:=ec' e1
  exact k _ _ I (r.store (by rw [r.len];exact hl) hd (fun m=>nomatch m) (fun _ z=>nomatch z)) (Grow.refl _ _) (k7' him)
def tgNil (ds:List D):M Unit:=match ds with
 | []=>ret ()
 | _=>fun _=>none
def tgCons (f:D->M Unit) (t:List D->M Unit) (ds:List D):M Unit:=match ds with
 | d::r=>bnd (f d) fun _=>t r
 | []=>fun _=>none
theorem bv' {m:Nat}:GDs X B m [] tgNil:=PGs.imp rI' fun v σ H Q q=>by
 obtain ⟨G,I,Γ,ds,Γ',r,hd,e1,k⟩:=q
 cases ds with
 | nil=>cases e1;exact ⟨hd.nil_inv,k _ _ I r (Grow.refl _ _) rfl⟩
 | cons d t=>cases e1
theorem aA' {m:Nat}{f:D->M Unit}{t:List D->M Unit} (h1:GD X B m e f) (h2:GDs X B m es t) (hs:(assignEach (e::es) X.env).map (·.2)=assign e X.env::(assignEach es X.env).map (·.2):=by rfl):GDs X B m (e::es) (tgCons f t):=PGs.imp (qq' h1 h2 hs) fun v σ H Q q=>by
 obtain ⟨G,I,Γ,ds,Γ',r,hd,e1,k⟩:=q
 cases ds with
 | nil=>cases e1
 | cons d t =>
  obtain ⟨x,xs,rfl,h1,h2⟩:=hd.cons_inv
  obtain ⟨u,Γ1,e2,e3⟩:=ai' e1
  exact ⟨x,xs,rfl,G,I,Γ,d,Γ1,r,h1,e2,fun σ1 H1 I1 r1 g1 z=>⟨G,I1,Γ1,t,Γ',r1,h2.mono g1.up,e3,k.after g1 z⟩⟩
def tgTup (n:Nat) (t:List D->M Unit) (d:D):M Unit:=match d with
 | .tup ds=>if ds.length=n then t ds else fun _=>none
 | _=>fun _=>none
theorem bX' {k m:Nat}{t:List D->M Unit}{n:Nat} (hc:X.calm=true) (h:GDs X B m es t) (hn:(assignEach es X.env).length=n:=by rfl) (hst:(assignEach es X.env).findIdx? (·.1)=none:=by rfl):GD X B m (.Tuple es k pos) (tgTup n t) :=
 PG.imp (sN' hc h hn hst) fun v σ H Q q=>by
  obtain ⟨G,I,Γ,d,Γ',r,hd,e1,k⟩:=q
  cases d with
  | tup ds =>
   obtain ⟨a,xs,rfl,h1,h2⟩:=aD' hd
   unfold tgTup at e1
   by_cases hl:ds.length=n
   ·simp only [hl,if_true] at e1
    exact ⟨a,xs,rfl,Same.sqT r.iH h1,by rw [← h2.length];exact hl,G,I,Γ,ds,Γ',r,h2,e1,k⟩
   ·simp only [hl,if_false] at e1;cases e1
  | _=>cases e1
def asgS (g:M D) (f:D->M Unit):M Fl:=bnd g fun d=>bnd (f d) fun _=>ret .nx
theorem ta' {m:Nat}{tg:Expr}{f:D->M Unit} (he:ED X B e ga) (hg:GD X B m tg f) (hs:swapsWithSole [tg] e pos.line X.env=pure false:=by rfl) (hw:swappedStores [tg] e X.env=pure none:=by rfl)
  (h1:(assignEach [tg] X.env).map (·.2)=[assign tg X.env]:=by rfl):SD X B (.Assign [tg] e pos) (asgS ga f):=PS.imp (oS' he hg hs hw h1) fun E σ H q=>by
 obtain ⟨G,I,Γ,f,Γ',r,e1,k⟩:=q
 obtain ⟨d1,Γ1,e2,e3⟩:=ai' e1
 obtain ⟨d2,Γ2,e4,e5⟩:=ai' e3
 cases e5
 exact ⟨G,I,Γ,d1,Γ1,r,e2,fun v H1 I1 r1 g1 h1=>⟨G,I1,Γ1,d1,_,r1,h1,e4,fun σ2 H2 I2 r2 g2 _=>k σ2 H2 I2 r2 (g1.trans g2)⟩⟩
def setV (i:Nat) (g:M D):M Fl:=bnd g fun d=>bnd (putS i (.val d)) fun _=>ret .nx
def setO (i:Nat) (g:M (List D)):M Fl:=bnd g fun d=>bnd (putS i (.own d)) fun _=>ret .nx
theorem tb' {K:PySem.W.Frag}{i:Nat}:∀ E σ H,tS K B (setV i ga) E σ H->tAsg (tD K B ga) (gName i) E σ H:=fun E σ H q=>by
 obtain ⟨G,I,Γ,f,Γ',r,e1,k⟩:=q
 obtain ⟨d1,Γ1,e2,e3⟩:=ai' e1
 obtain ⟨d2,Γ2,e4,e5⟩:=ai' e3
 cases e5
 obtain ⟨hl,rfl⟩:=ec' e4
 exact ⟨G,I,Γ,d1,Γ1,r,e2,fun v H1 I1 r1 g1 h1=>k _ H1 I1 (r1.store (by rw [r1.len];exact hl) h1 (fun m=>nomatch m) (fun _ z=>nomatch z)) g1⟩
theorem tc' {K:PySem.W.Frag}{i:Nat}{g:M (List D)}:∀ E σ H,tS K B (setO i g) E σ H->tAsg (tO K B g) (gName i) E σ H:=fun E σ H q=>by
 obtain ⟨G,I,Γ,f,Γ',r,e1,k⟩:=q
 obtain ⟨d1,Γ1,e2,e3⟩:=ai' e1
 obtain ⟨d2,Γ2,e4,e5⟩:=ai' e3
 cases e5
 obtain ⟨hl,rfl⟩:=ec' e4
 exact ⟨G,I,Γ,d1,Γ1,r,e2,fun p xs H1 I1 r1 g1 h1 h2 h3 h4 h5=>k _ H1 I1 (r1.store (by rw [r1.len];exact hl) ⟨p,xs,rfl,h1,h2,h3,h5⟩ (fun _ p' z=>by cases z;exact h4) (fun _ z=>nomatch z)) g1⟩
theorem td' {i:Nat}{x:Str}{pos':Pos} (hN:X.N.Nodup) (he:ED X B e ga) (hi:X.N[i]?=some x:=by rfl) (hx:Loc X.env.scope x:=by first | exact Or.inl rfl | exact Or.inr rfl) (hs:swapsWith e (some (.Name x pos')) pos.line X.env=pure false:=by rfl)
  (hf:X.fn x=true\/X.env.scope.names.lookup x=some .local:=by first | exact .inl rfl | exact .inr rfl):SD X B (.Assign [.Name x pos'] e pos) (setV i ga):=PS.imp (iE' hN hi hx he hs hf) tb'
theorem bm' {i:Nat}{x:Str}{pos':Pos}{g:M (List D)} (hN:X.N.Nodup) (he:EO X B e g) (hi:X.N[i]?=some x:=by rfl) (hx:Loc X.env.scope x:=by first | exact Or.inl rfl | exact Or.inr rfl) (hs:swapsWith e (some (.Name x pos')) pos.line X.env=pure false:=by rfl)
  (hf:X.fn x=true\/X.env.scope.names.lookup x=some .local:=by first | exact .inl rfl | exact .inr rfl):SD X B (.Assign [.Name x pos'] e pos) (setO i g):=PS.imp (iE' hN hi hx he hs hf) tc'
def isMut (Γ:Gm) (i:Nat):Bool:=match Γ[i]? with
 | some (some r)=>r.mut
 | _=>false
def wr (i:Nat) (F:List D->Option (List D)):M Unit:=fun Γ=>match Γ[i]? with
 | some (some (.own ds))=>match F ds with
  | some es=>some ((),Γ.set i (some (.own es)))
  | none=>none
 | some (some (.bor ds))=>match F ds with
  | some es=>some ((),Γ.set i (some (.bor es)))
  | none=>none
 | _=>none
theorem bY' {K:PySem.W.Frag}{G I H:Hp}{σ:L2.St}{Γ:Gm}{i:Nat} (h:isMut Γ i=true) (r:Rep K B G I H σ Γ):∃ p xs,σ[i]?=some (some (.ref p))/\H p=some (.lst xs):=by
 unfold isMut at h
 cases e:Γ[i]? with
 | none=>rw [e] at h;cases h
 | some o =>
  cases o with
  | none=>rw [e] at h;cases h
  | some q =>
   rw [e] at h
   obtain ⟨v,h1,h2⟩:=r.slot i q e
   cases q with
   | val d=>cases h
   | fro d=>cases h
   | dic d=>cases h
   | own d=>obtain ⟨p,xs,rfl,h3,_⟩:=h2;exact ⟨p,xs,h1,h3⟩
   | bor d=>obtain ⟨p,xs,rfl,h3,_⟩:=h2;exact ⟨p,xs,h1,h3⟩
theorem gJ' {K:PySem.W.Frag}{G I H:Hp}{σ:L2.St}{Γ Γ':Gm}{i:Nat}{F:List D->Option (List D)}{u:Unit} (h:wr i F Γ=some (u,Γ')) (r:Rep K B G I H σ Γ) :
  ∃ p xs ds es,σ[i]?=some (some (.ref p))/\H p=some (.lst xs)/\IsA K I ds xs/\F ds=some es/\∀ ys,IsA K I es ys->Rep K B G I (upd H p (.lst ys)) σ Γ':=by
 unfold wr at h
 cases e:Γ[i]? with
 | none=>rw [e] at h;cases h
 | some o =>
  cases o with
  | none=>rw [e] at h;cases h
  | some q =>
   obtain ⟨v,h1,h2⟩:=r.slot i q e
   cases q with
   | val d=>rw [e] at h;cases h
   | fro d=>rw [e] at h;cases h
   | dic d=>rw [e] at h;cases h
   | own ds =>
    rw [e] at h
    obtain ⟨p,xs,rfl,g1,g2,g3,g4⟩:=h2
    cases hf:F ds with
    | none=>simp only [hf] at h;cases h
    | some es =>
     simp only [hf] at h;cases h
     exact ⟨p,xs,ds,es,h1,g1,g4,hf,fun ys hy=>r.write e rfl h1 g1 (.inl rfl) hy⟩
   | bor ds =>
    rw [e] at h
    obtain ⟨p,xs,rfl,g1,g2,g3,g4⟩:=h2
    cases hf:F ds with
    | none=>simp only [hf] at h;cases h
    | some es =>
     simp only [hf] at h;cases h
     exact ⟨p,xs,ds,es,h1,g1,g4,hf,fun ys hy=>r.write e rfl h1 g1 (.inr ⟨rfl,ds,rfl⟩) hy⟩
def mutS {α:Type} (i:Nat) (m:M α):M α:=fun Γ=>if isMut Γ i then m Γ else none
theorem ck' {α:Type}{i:Nat}{m:M α}{Γ:Gm}{r:α×Gm} (h:mutS i m Γ=some r):isMut Γ i=true/\m Γ=some r:=by
 unfold mutS at h
 by_cases hc:isMut Γ i=true
 ·rw [if_pos hc] at h;exact ⟨hc,h⟩
 ·rw [if_neg hc] at h;cases h
def appF (d:D) (ds:List D):Option (List D):=if ds.length < lim then some (ds++[d]) else none
def extF (d:D) (ds:List D):Option (List D):=match d with
 | .lst es=>if ds.length+es.length<=lim then some (ds++es) else none
 | _=>none
def appS (i:Nat) (g:M D):M Fl:=mutS i (bnd g fun d=>bnd (wr i (appF d)) fun _=>ret .nx)
def extS (i:Nat) (g:M D):M Fl:=mutS i (bnd g fun d=>bnd (wr i (extF d)) fun _=>ret .nx)
theorem jg' {pins:List (Addr×Obj)}{σ:L2.St}{H:Hp}{s:Shared}{l:Addr}{xs:List V} (I:Inv X pins σ H s) (hH:RdK X.K H l xs):xs.length<=sizeLine/\∃ (its:List Value) (n:Nat),Vals xs its/\xs.length=its.length/\s.heap.get? l=some { cls:=.type "list", data:=.seq its.toArray n }:=by
 rcases hH with hH | ⟨its,n,h1,h2,h3⟩
 ·obtain ⟨z,its,n,r,e⟩:=hH.ok I.hok
  exact ⟨z,its,n,r,r.length,e⟩
 ·exact ⟨by rw [h2.length];exact h3,its,n,h2,h2.length,I.kIn l _ h1⟩
def rExtendR (K:PySem.W.Frag):V->List V->Hp->VK->Prop:=fun x vs H Q=>∃ l b xs zs,x=.ref l/\vs=[.ref b]/\H l=some (.lst xs)/\RdK K H b zs/\xs.length+zs.length<=sizeLine/\Q .non (upd H l (.lst (xs++zs)))
theorem n0':MtM X "list.extend" (rExtendR X.K):=by
 intro pins s σ H x vs v us Q I rx rv h
 obtain ⟨l,b,xs,zs,rfl,rfl,hH,hB,hz,q⟩:=h
 cases rx
 obtain ⟨u,rfl,ru⟩:=rv.one
 cases ru
 obtain ⟨z,its,n,r,hl,e⟩:=I.lstM hH
 obtain ⟨z2,its2,n2,r2,hl2,e2⟩:=jg' I hB
 have hsz:its.toArray.size+its2.toArray.size<=sizeLine:=by rw [List.size_toArray,List.size_toArray];omega
 have hlong:¬ (!its.toArray.isEmpty&&Builtin.List.listTooLong (its.toArray.size+its2.toArray.size))=true:=by
  rw [notLongL hsz,Bool.and_false]
  exact Bool.false_ne_true
 refine call_meets F.slot_list_extend ⟨_,e,rfl⟩ F.entry_list_extend (F.args_list_extend_2 _ _)
  (AutoSeq1.list_extend_list_list_0 l its.toArray n b its2.toArray n2 hlong (by rw [List.size_toArray];omega) (by omega)) ⟨e,e2,?_⟩
 refine ⟨.non,_,I.lset (its':=its++its2) hH e (by simp) (r.append r2) ?_,rfl,q⟩
 rw [List.length_append]
 omega
theorem cx' {i:Nat}{x:Str}{p1 apos cpos:Pos} (hv:PE X (.Name x p1) (tVar i)) (ha:ED X B e ga) (hs:swapsWith (.Call (.Attribute (.Name x p1) "append" apos) [e] [] cpos) none pos.line X.env=pure false:=by rfl)
  (hse:starEach [e] X.env=(false,eval e X.env)::starEach [] X.env:=by rfl)
  (hbase:attributeBase (.Name x p1) "append" X.env (eval (.Name x p1) X.env)=eval (.Name x p1) X.env:=by rfl)
  (hfew:((backTo cpos (starEach [e] X.env)).all (fun x=>!x.1)&&(backToKw cpos (keywordEach [] X.env)).all (fun x=>x.1.isSome)
   &&decide ([e].length+([]:List Keyword).length+(if ([]:List Keyword).isEmpty then 0 else 1) < 30))=true:=by rfl)
  (hline:(apos.endLine == cpos.line)=true:=by rfl) (hplain:(backTo cpos (starEach [] X.env)).any (·.1)=false:=by rfl) :
  SD X B (.Expr (.Call (.Attribute (.Name x p1) "append" apos) [e] [] cpos) pos) (appS i ga) :=
 PS.imp (jd' (nX' PySem.F.plainAttrs_list PySem.F.slot_list_append PySem.F.type_list_append jY' hv (c3' ha gG' hse) hbase hfew hline hse hplain) hs) fun E σ H q=>by
  obtain ⟨G,I,Γ,f,Γ',r,e1,k⟩:=q
  obtain ⟨hm,e1⟩:=ck' e1
  obtain ⟨d1,Γ1,e2,e3⟩:=ai' e1
  obtain ⟨d2,Γ2,e4,e5⟩:=ai' e3
  cases e5
  obtain ⟨p,xs,h1,h2⟩:=bY' hm r
  refine ⟨_,h1,.inl ⟨rfl,xs,SqL.of h2⟩,G,I,Γ,d1,Γ1,r,e2,fun v H1 I1 r1 g1 hd=>?_⟩
  obtain ⟨p',xs',ds,es,h3,h4,h5,h6,h7⟩:=gJ' e4 r1
  have hp:p'=p:=by rw [h1] at h3;cases h3;rfl
  subst hp
  obtain ⟨hl,rfl⟩:=aQ' h6
  refine ⟨p',xs',v,rfl,rfl,h4,?_,k σ _ I1 (h7 _ (IsA.append h5 (IsA.cons hd IsA.nil))) g1⟩
  rw [← h5.length]
  exact Nat.lt_of_lt_of_le hl (fb' (Nat.le_refl _))
theorem o5' {i:Nat}{x:Str}{p1 apos cpos:Pos} (hv:PE X (.Name x p1) (tVar i)) (ha:ED X B e ga) (hs:swapsWith (.Call (.Attribute (.Name x p1) "extend" apos) [e] [] cpos) none pos.line X.env=pure false:=by rfl)
  (hse:starEach [e] X.env=(false,eval e X.env)::starEach [] X.env:=by rfl)
  (hbase:attributeBase (.Name x p1) "extend" X.env (eval (.Name x p1) X.env)=eval (.Name x p1) X.env:=by rfl)
  (hfew:((backTo cpos (starEach [e] X.env)).all (fun x=>!x.1)&&(backToKw cpos (keywordEach [] X.env)).all (fun x=>x.1.isSome)
   &&decide ([e].length+([]:List Keyword).length+(if ([]:List Keyword).isEmpty then 0 else 1) < 30))=true:=by rfl)
  (hline:(apos.endLine == cpos.line)=true:=by rfl) (hplain:(backTo cpos (starEach [] X.env)).any (·.1)=false:=by rfl) :
  SD X B (.Expr (.Call (.Attribute (.Name x p1) "extend" apos) [e] [] cpos) pos) (extS i ga) :=
 PS.imp (jd' (nX' PySem.F.plainAttrs_list PySem.F.slot_list_extend PySem.F.type_list_extend n0' hv (c3' ha gG' hse) hbase hfew hline hse hplain) hs) fun E σ H q=>by
  obtain ⟨G,I,Γ,f,Γ',r,e1,k⟩:=q
  obtain ⟨hm,e1⟩:=ck' e1
  obtain ⟨d1,Γ1,e2,e3⟩:=ai' e1
  obtain ⟨d2,Γ2,e4,e5⟩:=ai' e3
  cases e5
  obtain ⟨p,xs,h1,h2⟩:=bY' hm r
  refine ⟨_,h1,.inl ⟨rfl,xs,SqL.of h2⟩,G,I,Γ,d1,Γ1,r,e2,fun v H1 I1 r1 g1 hd=>?_⟩
  obtain ⟨p',xs',ds,es,h3,h4,h5,h6,h7⟩:=gJ' e4 r1
  have hp:p'=p:=by rw [h1] at h3;cases h3;rfl
  subst hp
  cases d1 with
  | lst zs =>
   obtain ⟨a,ys,rfl,i1,i2⟩:=aJ' hd
   obtain ⟨hl,rfl⟩:=aQ' h6
   refine ⟨p',a,xs',ys,rfl,rfl,h4,Same.rdK r1.iH i1,?_,k σ _ I1 (h7 _ (IsA.append h5 i2)) g1⟩
   rw [← h5.length,← i2.length]
   exact fb' hl
  | _=>cases h6
def asI (d:D):Option Int:=match d with
 | .int i=>some i
 | _=>none
theorem ne' {d:D}{i:Int} (h:asI d=some i):d=.int i:=by
 cases d<;>simp [asI] at h
 rw [h]
def stF (k:Int) (d:D) (ds:List D):Option (List D):=(ixN ds.length k).map fun j=>ds.set j d
def stS (i:Nat) (gi gv:M D):M Fl:=bnd gv fun d=>mutS i (bnd gi fun n=>bnd (lft (asI n)) fun k=>bnd (wr i (stF k d)) fun _=>ret .nx)
theorem kW' {i:Nat}{x:Str}{p1 p2:Pos}{ie:Expr}{gi:M D} (hv:PE X (.Name x p1) (tVar i)) (hi:ED X B ie gi) (he:ED X B e ga)
  (ha:∀ v,assign (.Subscript (.Name x p1) ie p2) X.env v=(do
   let ov ← holding [v] (eval (.Name x p1) X.env)
   let iv ← holding [v,ov] (eval ie X.env)
   standAt p2
   holding [v,ov,iv] (setItem ov iv v)
   release [v,ov,iv] []):=by intro _;rfl)
  (hs:swapsWithSole [.Subscript (.Name x p1) ie p2] e pos.line X.env=pure false:=by rfl) (hw:swappedStores [.Subscript (.Name x p1) ie p2] e X.env=pure none:=by rfl)
  (h1:(assignEach [.Subscript (.Name x p1) ie p2] X.env).map (·.2)=[assign (.Subscript (.Name x p1) ie p2) X.env]:=by rfl) :
  SD X B (.Assign [.Subscript (.Name x p1) ie p2] e pos) (stS i gi ga):=PS.imp (oS' he (sO' hv hi qw' ha) hs hw h1) fun E σ H q=>by
 obtain ⟨G,I,Γ,f,Γ',r,e1,k⟩:=q
 obtain ⟨d,Γ1,e2,e3⟩:=ai' e1
 obtain ⟨hm,e3⟩:=ck' e3
 obtain ⟨n,Γ2,e4,e5⟩:=ai' e3
 obtain ⟨z,Γ3,e6,e7⟩:=ai' e5
 obtain ⟨e8,rfl⟩:=ay' e6
 obtain ⟨u,Γ4,f1,f2⟩:=ai' e7
 cases f2
 have:=ne' e8
 subst this
 refine ⟨G,I,Γ,d,Γ1,r,e2,fun v H1 I1 r1 g1 hd=>?_⟩
 obtain ⟨p,xs,h1,h2⟩:=bY' hm r1
 refine ⟨_,h1,G,I1,Γ1,_,_,r1,e4,fun w H2 I2 r2 g2 hw=>?_⟩
 obtain ⟨p',xs',ds,es,h3,h4,h5,h6,h7⟩:=gJ' f1 r2
 have hp:p'=p:=by rw [h1] at h3;cases h3;rfl
 subst hp
 unfold stF at h6
 cases hj:ixN ds.length z with
 | none=>rw [hj] at h6;cases h6
 | some j =>
  rw [hj] at h6
  cases h6
  exact ⟨p',xs',z,j,rfl,ar' hw,h4,by rw [← h5.length];exact hj,k σ _ I2 (h7 _ (IsA.set (hd.mono g2.up) j h5)) (g1.trans g2)⟩
def Yields (K:PySem.W.Frag) (I:Hp) (ds:List D) (J:It):Prop:=∀ (i:Nat) (H1:Hp),Same I H1 →
 (∀ d,ds[i]?=some d->J.go i H1/\∀ x H2,J.yld i H1 x H2->(H2=H1/\Is K I d x)\/(∃ p es xs,d=.tup es/\x=.ref p/\H1 p=none/\H2=upd H1 p (.tup xs)/\IsA K I es xs))/\(ds.length<=i->J.stop i H1)
def tI (K:PySem.W.Frag) (B:BB) (g:M (List D)):TI:=fun σ H R=>∃ G I Γ ds Γ',Rep K B G I H σ Γ/\g Γ=some (ds,Γ')/\∀ J H' I',Rep K B G I' H' σ Γ'->Grow G I I'->Yields K I' ds J->R J H'
def ITD (X:Cx) (B:BB) (tg iter:Expr) (g:M (List D)):Prop:=PI X tg iter (tI X.K B g)
theorem te' {tg l:Expr}{tl:TE} (hl:PE X l tl):PI X tg l (fun σ H R=>tl σ H fun x H1=>(∃ a,x=.ref a/\(∃ xs,SqL X.K H1 a xs)/\R (Itl X.K a) H1)\/(∃ a,x=.ref a/\(∃ xs,SqT X.K H1 a xs)/\R (Itt X.K a) H1)):=by
 intro pins s σ H R I h
 refine thn (hl pins s σ H _ I h) fun v s1 ⟨x,H1,I1,r1,q1⟩=>?_
 rcases q1 with ⟨a,e,⟨xs,hq⟩,q⟩ | ⟨a,e,⟨xs,hq⟩,q⟩
 ·subst e
  cases r1
  obtain ⟨its,rv,p,hz⟩:=I1.list hq
  refine wpAny_pyIter_list p.isList ?_
  refine ⟨s1.heap.objs.size,[s1.heap.objs.size],_,_,H1,rfl,I1.kept (t':=s1.toks) fun b o e=>Heap.get?_push_of_some _ e,oT' a _,⟨_,Heap.get?_push_size _ rfl,rfl,rfl⟩,fun b hb=>?_,q⟩
  have e:b=s1.heap.objs.size:=by simpa using hb
  subst e
  exact I1.fpOk (Nat.le_refl _) (I1.hok.fresh (Nat.le_refl _))
 ·subst e
  cases r1
  obtain ⟨its,rv,p,hz⟩:=I1.tuple hq
  refine wpAny_pyIter_tuple (show s1.heap.IsTuple a its.toArray from p) ?_
  refine ⟨s1.heap.objs.size,[s1.heap.objs.size],_,_,H1,rfl,I1.kept (t':=s1.toks) fun b o e=>Heap.get?_push_of_some _ e,nR' a _,⟨_,Heap.get?_push_size _ rfl,rfl,rfl⟩,fun b hb=>?_,q⟩
  have e:b=s1.heap.objs.size:=by simpa using hb
  subst e
  exact I1.fpOk (Nat.le_refl _) (I1.hok.fresh (Nat.le_refl _))
def seqI (d:D):Option (List D):=match d with
 | .lst ds=>some ds
 | .tup ds=>some ds
 | _=>none
def itS (g:M D):M (List D):=bnd g fun d=>lft (seqI d)
theorem az' {tg:Expr} (ha:ED X B a ga):ITD X B tg a (itS ga):=PI.imp (te' ha) fun σ H R q=>by
 obtain ⟨G,I,Γ,ds,Γ',r,e1,k⟩:=q
 obtain ⟨d,Γ1,e2,e3⟩:=ai' e1
 obtain ⟨e4,rfl⟩:=ay' e3
 refine ⟨G,I,Γ,d,_,r,e2,fun v H1 I1 r1 g1 hd=>?_⟩
 cases d with
 | lst es =>
  cases e4
  obtain ⟨l,xs,rfl,h1,h2⟩:=aJ' hd
  refine .inl ⟨l,rfl,⟨xs,(Same.rdK r1.iH h1).sq⟩,k _ _ _ r1 g1 fun i H2 s2=>⟨fun d hd=>?_,fun hi=>⟨xs,(Same.rdK s2 h1).sq,by rw [← h2.length];exact hi⟩⟩⟩
  obtain ⟨x,e5,e6⟩:=h2.get hd
  refine ⟨⟨xs,x,(Same.rdK s2 h1).sq,e5⟩,fun y H3 hy=>.inl ⟨hy.1,?_⟩⟩
  have:=hy.2 xs ((Same.rdK s2 h1).sq)
  rw [e5] at this;cases this
  exact e6
 | tup es =>
  cases e4
  obtain ⟨l,xs,rfl,h1,h2⟩:=aD' hd
  refine .inr ⟨l,rfl,⟨xs,Same.sqT r1.iH h1⟩,k _ _ _ r1 g1 fun i H2 s2=>⟨fun d hd=>?_,fun hi=>⟨xs,Same.sqT s2 h1,by rw [← h2.length];exact hi⟩⟩⟩
  obtain ⟨x,e5,e6⟩:=h2.get hd
  refine ⟨⟨xs,x,Same.sqT s2 h1,e5⟩,fun y H3 hy=>.inl ⟨hy.1,?_⟩⟩
  have:=hy.2 xs (Same.sqT s2 h1)
  rw [e5] at this;cases this
  exact e6
 | _=>cases e4
def rngD (lo:Int) (n:Nat):List D:=(List.range n).map fun (k:Nat)=>D.int (lo+(k:Int))
theorem iI' {K:PySem.W.Frag}{I:Hp} (lo:Int) (n:Nat):Yields K I (rngD lo n) (Itr lo n):=fun i H1 s1=>by
 refine ⟨fun d hd=>?_,fun hi=>?_⟩
 ·unfold rngD at hd
  rw [List.getElem?_map] at hd
  cases e:(List.range n)[i]? with
  | none=>rw [e] at hd;cases hd
  | some j =>
   rw [e] at hd
   cases hd
   obtain ⟨h1,h2⟩:=List.getElem?_eq_some_iff.mp e
   rw [List.getElem_range] at h2
   rw [List.length_range] at h1
   subst h2
   refine ⟨h1,fun x H2 hy=>.inl ⟨hy.1,?_⟩⟩
   rw [hy.2]
   exact Is.int _
 ·unfold rngD at hi
  rw [List.length_map,List.length_range] at hi
  exact hi
def rngI1 (ds:List D):Option (List D):=match ds with
 | [.int j]=>if -1000000<=j/\j<=1000000 then some (rngD 0 j.toNat) else none
 | _=>none
def rngI2 (ds:List D):Option (List D):=match ds with
 | [.int i,.int j]=>if (-1000000<=i/\i<=1000000)/\-1000000<=j/\j<=1000000 then some (rngD i (j - i).toNat) else none
 | _=>none
theorem j1' {ds es:List D} (h:rngI1 ds=some es):∃ j:Int,ds=[.int j]/\(-1000000<=j/\j<=1000000)/\es=rngD 0 j.toNat:=by
 unfold rngI1 at h
 split at h
 ·obtain ⟨h1,h2⟩:=aQ' h
  exact ⟨_,rfl,h1,h2⟩
 ·cases h
theorem o6' {ds es:List D} (h:rngI2 ds=some es):∃ i j:Int,ds=[.int i,.int j]/\((-1000000<=i/\i<=1000000)/\-1000000<=j/\j<=1000000)/\es=rngD i (j - i).toNat:=by
 unfold rngI2 at h
 split at h
 ·obtain ⟨h1,h2⟩:=aQ' h
  exact ⟨_,_,rfl,h1,h2⟩
 ·cases h
theorem ff' {tg:Expr}{p:Pos}{t:M (List D)} (hg:Gl X "range") (hm:X.mg "range"=none) (ha:AD X B [a] t) (hs:starEach [a] X.env=[(false,eval a X.env)]:=by rfl):ITD X B tg (.Call (.Name "range" p) [a] [] pos) (fn1 rngI1 t) :=
 PI.imp (oU' hg hm ha hs) fun σ H R q=>by
  obtain ⟨G,I,Γ,ds,Γ',r,e1,k⟩:=q
  obtain ⟨d,Γ1,e2,e3⟩:=ai' e1
  obtain ⟨e4,rfl⟩:=ay' e3
  obtain ⟨j,rfl,⟨h1,h2⟩,rfl⟩:=j1' e4
  refine ⟨G,I,Γ,_,_,r,e2,fun vs H1 I1 r1 g1 hd=>?_⟩
  obtain ⟨x,rfl,hx⟩:=hd.one
  exact ⟨j,by rw [ar' hx],by omega,by omega,k _ _ _ r1 g1 (iI' _ _)⟩
theorem k8' {tg:Expr}{p:Pos}{t:M (List D)} (hg:Gl X "range") (hm:X.mg "range"=none) (ha:AD X B [a,b] t) (hs:starEach [a,b] X.env=[(false,eval a X.env),(false,eval b X.env)]:=by rfl) (hs2:starEach [b] X.env=[(false,eval b X.env)]:=by rfl) :
  ITD X B tg (.Call (.Name "range" p) [a,b] [] pos) (fn1 rngI2 t) :=
 PI.imp (oV' hg hm ha hs hs2) fun σ H R q=>by
  obtain ⟨G,I,Γ,ds,Γ',r,e1,k⟩:=q
  obtain ⟨d,Γ1,e2,e3⟩:=ai' e1
  obtain ⟨e4,rfl⟩:=ay' e3
  obtain ⟨i,j,rfl,h1,rfl⟩:=o6' e4
  refine ⟨G,I,Γ,_,_,r,e2,fun vs H1 I1 r1 g1 hd=>?_⟩
  obtain ⟨x,y,rfl,hx,hy⟩:=hd.two
  exact ⟨i,j,by rw [ar' hx,ar' hy],by omega,k _ _ _ r1 g1 (iI' _ _)⟩
def forM (tgt:D->M Unit) (body:M Fl):List D->M Fl
 | []=>ret .nx
 | d::ds=>bnd (tgt d) fun _=>bnd body fun f=>match f with
  | .nx=>forM tgt body ds
  | .ct=>forM tgt body ds
  | .bk=>ret .nx
  | .rt r=>ret (.rt r)
def forS (it:M (List D)) (tgt:D->M Unit) (body:M Fl):M Fl:=bnd it fun ds=>forM tgt body ds
theorem tf' {m:Nat}{iter tg:Expr}{body:List Stmt}{it:M (List D)}{tgt:D->M Unit} (hp:PassesOwn (model X.prog X.w) X.A X.env X.xe) (hc:X.calm=true) (hi:ITD X B tg iter it) (hg:GD X B m tg tgt) (hb:SDs X B body g)
  (hs:∀ x,foldedSetIterable iter X.env x=pure x:=by intro _;rfl):SD X B (.For tg iter body [] pos) (forS it tgt g):=PS.imp (sP' hp hc hi hg hb hs) fun E σ H q=>by
 obtain ⟨G,I,Γ,f,Γ',r,e1,k⟩:=q
 obtain ⟨ds,Γ1,e2,e3⟩:=ai' e1
 refine ⟨G,I,Γ,ds,Γ1,r,e2,fun J H1 I1 r1 g1 y=>?_⟩
 refine ⟨fun i m σ H=>∃ I2 Γ2,Rep X.K B G I2 H σ Γ2/\Grow G I1 I2/\forM tgt g (ds.drop i) Γ2=some (f,Γ')/\i<=ds.length/\m=ds.length - i,⟨ds.length,I1,Γ1,r1,Grow.refl _ _,by simpa using e3,Nat.zero_le _,rfl⟩,?_⟩
 rintro i m' σ2 H2 ⟨I2,Γ2,r2,g2,e4,hi',rfl⟩
 obtain ⟨yg,ys⟩:=y i H2 (g2.up.trans r2.iH)
 by_cases hlt:i < ds.length
 ·have hd:ds.drop i=ds[i]::ds.drop (i+1):=List.drop_eq_getElem_cons hlt
  obtain ⟨go,yld⟩:=yg ds[i] (List.getElem?_eq_getElem hlt)
  rw [hd] at e4
  obtain ⟨u,Γ3,e5,e6⟩:=ai' e4
  obtain ⟨fl,Γ4,e7,e8⟩:=ai' e6
  refine .inr ⟨go,fun σ' H'=>∃ I3,Rep X.K B G I3 H' σ' Γ4/\Grow G I1 I3/\(fl=.nx\/fl=.ct),fun σ' H' ⟨I3,r3,g3,hf⟩=>⟨ds.length - (i+1),by omega,I3,Γ4,r3,g3,?_,hlt,rfl⟩,fun x H3 hy=>?_⟩
  ·rcases hf with rfl | rfl<;>exact e8
  ·have go2:∀ I3,Rep X.K B G I3 H3 σ2 Γ2->Grow G I2 I3->Is X.K I3 ds[i] x->tGD X.K B m tgt x σ2 H3 fun σ2 H2=>tS X.K B g { E with nx:=fun σ' H'=>∃ I3,Rep X.K B G I3 H' σ' Γ4/\Grow G I1 I3/\(fl=.nx\/fl=.ct),ct:=fun σ' H'=>∃ I3,Rep X.K B G I3 H' σ' Γ4/\Grow G I1 I3/\(fl=.nx\/fl=.ct),bk:=E.nx } σ2 H2:=by
    intro I3 r3 g3 hx
    refine ⟨G,I3,Γ2,ds[i],Γ3,r3,hx,e5,fun σ4 H4 I4 r4 g4 _=>⟨G,I4,Γ3,fl,Γ4,r4,e7,fun σ5 H5 I5 r5 g5=>?_⟩⟩
    have gg:Grow G I1 I5:=g2.trans (g3.trans (g4.trans g5))
    cases fl with
    | nx=>exact ⟨I5,r5,gg,.inl rfl⟩
    | ct=>exact ⟨I5,r5,gg,.inr rfl⟩
    | bk=>cases e8;exact k σ5 H5 I5 r5 (g1.trans gg)
    | rt v=>cases e8;exact k σ5 H5 I5 r5 (g1.trans gg)
   rcases yld x H3 hy with ⟨rfl,hx⟩ | ⟨p,es,xs,hd2,rfl,hp2,rfl,hx⟩
   ·exact go2 I2 r2 (Grow.refl _ _) (hx.mono g2.up)
   ·refine go2 _ (r2.alloc hp2 _) (r2.growAlloc hp2 _) ?_
    rw [hd2]
    exact Is.tup (SqT.of au') ((hx.mono g2.up).mono (aW' (r2.iFree hp2) _))
 ·have hi2:i=ds.length:=by omega
  subst hi2
  rw [List.drop_length] at e4
  cases e4
  exact .inl ⟨ys (Nat.le_refl _),k σ2 H2 I2 r2 (g1.trans g2)⟩
end
end DL
namespace DL
open PySem PySem.Spec PyProof.Rows L2
def fin:List R->Gm->Option (List R)
 | [],_=>some []
 | .val d::rs,_::Γ=>match fin rs Γ with
  | some l=>some (.val d::l)
  | none=>none
 | .bor _::rs,some (.bor ds)::Γ=>match fin rs Γ with
  | some l=>some (.bor ds::l)
  | none=>none
 | _,_=>none
def flR:Fl->Option R
 | .rt r=>some r
 | .nx=>some (.val .non)
 | _=>none
def fnD1 (n:Nat) (body:M Fl) (rs:List R):Option (R×List R) :=
 match body (rs.map some++List.replicate (n - rs.length) none) with
 | some (f,Γ')=>match flR f with
  | some r=>match fin rs Γ' with
   | some l=>some (r,l)
   | none=>none
  | none=>none
 | none=>none
def fnD (n ar:Nat) (body:M Fl) (rs:List R):Option (R×List R):=if rs.length=ar then fnD1 n body rs else none
def noOwn:R->Bool
 | .own _=>false
 | _=>true
def vB (vs:List V):BB:=fun i=>(vs.map some)[i]?
def spD (K:PySem.W.Frag) (g:List R->Option (R×List R)):Sp:=fun vs H Q _=>∃ (G I:Hp) (rs:List R) (r:R) (rs':List R),Rep K (vB vs) G I H (vs.map some) (rs.map some)/\rs.all noOwn=true/\g rs=some (r,rs') ∧
 ∀ v H' I',Rep K (vB vs) G I' H' (vs.map some) (rs'.map some)->Grow G I I'->ResOk K G I' H' (vs.map some) (rs'.map some) r v->Q v H'
theorem jh':∀ {rs l:List R}{Γ:Gm},fin rs Γ=some l->l.length=rs.length/\∀ (i:Nat) (r:R),l[i]?=some r->(∃ d,r=.val d/\rs[i]?=some (.val d))\/(∃ ds,r=.bor ds/\Γ[i]?=some (some (.bor ds)))
 | [],l,Γ,h=>by
  rw [fin] at h;cases h
  exact ⟨rfl,fun i r e=>by simp at e⟩
 | .val d::rs,l,[],h=>by simp [fin] at h
 | .bor d::rs,l,[],h=>by simp [fin] at h
 | .own d::rs,l,Γ,h=>by cases Γ<;>simp [fin] at h
 | .fro d::rs,l,Γ,h=>by cases Γ<;>simp [fin] at h
 | .dic d::rs,l,Γ,h=>by cases Γ<;>simp [fin] at h
 | .val d::rs,l,o::Γ,h=>by
  rw [fin] at h
  cases e:fin rs Γ with
  | none=>rw [e] at h;cases h
  | some l' =>
   rw [e] at h;cases h
   obtain ⟨h1,h2⟩:=jh' e
   refine ⟨by simp [h1],fun i r er=>?_⟩
   cases i with
   | zero=>simp at er;subst er;exact .inl ⟨d,rfl,rfl⟩
   | succ i =>
    rcases h2 i r (by simpa using er) with ⟨d',e1,e2⟩ | ⟨ds,e1,e2⟩
    ·exact .inl ⟨d',e1,by simpa using e2⟩
    ·exact .inr ⟨ds,e1,by simpa using e2⟩
 | .bor d::rs,l,none::Γ,h=>by simp [fin] at h
 | .bor d::rs,l,some (.val x)::Γ,h=>by simp [fin] at h
 | .bor d::rs,l,some (.own x)::Γ,h=>by simp [fin] at h
 | .bor d::rs,l,some (.fro x)::Γ,h=>by simp [fin] at h
 | .bor d::rs,l,some (.dic x)::Γ,h=>by simp [fin] at h
 | .bor d::rs,l,some (.bor x)::Γ,h=>by
  rw [fin] at h
  cases e:fin rs Γ with
  | none=>rw [e] at h;cases h
  | some l' =>
   rw [e] at h;cases h
   obtain ⟨h1,h2⟩:=jh' e
   refine ⟨by simp [h1],fun i r er=>?_⟩
   cases i with
   | zero=>simp at er;subst er;exact .inr ⟨x,rfl,rfl⟩
   | succ i =>
    rcases h2 i r (by simpa using er) with ⟨d',e1,e2⟩ | ⟨ds,e1,e2⟩
    ·exact .inl ⟨d',e1,by simpa using e2⟩
    ·exact .inr ⟨ds,e1,by simpa using e2⟩
theorem getMap {α β:Type}{f:α->β}{l:List α}{i:Nat}{b:β} (h:(l.map f)[i]?=some b):∃ a,l[i]?=some a/\b=f a:=by
 rw [List.getElem?_map] at h
 cases e:l[i]? with
 | none=>rw [e] at h;cases h
 | some a=>rw [e] at h;exact ⟨a,rfl,(Option.some.inj h).symm⟩
theorem hF' {α:Type}{l:List α}{n i:Nat}{a:α} (h:(l.map some++List.replicate n (none:Option α))[i]?=some (some a)):l[i]?=some a:=by
 by_cases hi:i < (l.map some).length
 ·rw [List.getElem?_append_left hi] at h
  obtain ⟨b,e1,e2⟩:=getMap h
  cases e2;exact e1
 ·rw [List.getElem?_append_right (by omega),List.getElem?_replicate] at h
  split at h<;>cases h
section
variable {P:Program}{w:World}{K:PySem.W.Frag}{mg:Str->Option Value}{base:Heap}
theorem aL' {x qual:Str}{st:Stmt}{f:Addr}{fd:FuncData}{N ps:List Str}{k:Nat} (F:Fun K x qual st f fd) (S:FnScope N ps (defScope st)) (g:M Fl)
  (hb:∀ (cdv:Value) (A:Around) (outer:List Env) (s:Shared) (H:Hp) (E:XK) (B:BB),Room k (A.deeper (envOfC qual (defScope st) s.heap.objs.size f cdv)) →
   SDs (cxOf CX0 P w K mg base N qual (defScope st) f cdv A outer s H E).nox B (defBody st) g):FnOk P w K mg base CX0 (k+1) f fd ps (spD K (fnD N.length ps.length g)):=by
 refine F.ok S (fun vs H Q E h=>?_) (fun cdv A outer s H vs Q E hr h=>?_)
 ·obtain ⟨_,_,rs,_,_,h1,_,h2,_⟩:=h
  unfold fnD at h2
  by_cases hc:rs.length=ps.length
  ·rw [← hc];simpa using h1.len
  ·rw [if_neg hc] at h2;cases h2
 ·obtain ⟨G,I,rs,r,rs',h2,h3,h4,h5⟩:=h
  have hl:vs.length=rs.length:=by simpa using h2.len
  refine ⟨_,hb cdv A outer s H E (fun i=>(L2.start N vs)[i]?) hr,?_⟩
  unfold fnD at h4
  have hc:rs.length=ps.length:=by
   by_cases hc:rs.length=ps.length
   ·exact hc
   ·rw [if_neg hc] at h4;cases h4
  rw [if_pos hc] at h4
  unfold fnD1 at h4
  cases e1:g (rs.map some++List.replicate (N.length - rs.length) none) with
  | none=>rw [e1] at h4;cases h4
  | some q =>
   obtain ⟨fl,Γ'⟩:=q
   rw [e1] at h4
   dsimp only at h4
   cases e2:flR fl with
   | none=>rw [e2] at h4;cases h4
   | some rr =>
    rw [e2] at h4
    dsimp only at h4
    cases e3:fin rs Γ' with
    | none=>rw [e3] at h4;cases h4
    | some l =>
     rw [e3] at h4
     obtain ⟨rfl,rfl⟩:rr=r/\l=rs':=by cases h4;exact ⟨rfl,rfl⟩
     have stv:∀ {i:Nat}{v:V},vs[i]?=some v->(L2.start N vs)[i]?=some (some v):=fun {i v} e=>by
      unfold L2.start
      rw [List.getElem?_append_left (by rw [List.length_map];exact (List.getElem?_eq_some_iff.mp e).1),List.getElem?_map,e];rfl
     have vst:∀ {i:Nat}{v:V},(L2.start N vs)[i]?=some (some v)->vs[i]?=some v:=fun {i v} e=>hF' e
     have rep0:Rep K (fun i=>(L2.start N vs)[i]?) G I H (L2.start N vs) (rs.map some++List.replicate (N.length - rs.length) none):={
      iH:=h2.iH,gH:=h2.gH
      len:=by unfold L2.start;rw [List.length_append,List.length_append,List.length_map,List.length_map,List.length_replicate,List.length_replicate,hl]
      slot:=fun i q e=>by
       have e':=hF' e
       obtain ⟨v,e4,e5⟩:=h2.slot i q (by rw [List.getElem?_map,e'];rfl)
       obtain ⟨v',e6,e7⟩:=getMap e4
       cases e7
       exact ⟨v,stv e6,e5⟩
      dist:=fun i j q q' v e e' m m' s1 s2=>h2.dist i j q q' v (by rw [List.getElem?_map,hF' e];rfl) (by rw [List.getElem?_map,hF' e'];rfl) m m' (by rw [List.getElem?_map,vst s1];rfl) (by rw [List.getElem?_map,vst s2];rfl)
      bor:=fun i ds e=>rfl }
     obtain ⟨f1,f2⟩:=jh' e3
     -- behind the body
     have back:∀ {σ':L2.St}{H' I':Hp},Rep K (fun i=>(L2.start N vs)[i]?) G I' H' σ' Γ'->Grow G I I'->Rep K (vB vs) G I' H' (vs.map some) (l.map some):=fun {σ' H' I'} r' g'=>{
      iH:=r'.iH,gH:=r'.gH
      len:=by rw [List.length_map,List.length_map,f1,hl]
      slot:=fun i q e=>by
       obtain ⟨q',e4,e5⟩:=getMap e
       cases e5
       rcases f2 i q e4 with ⟨d,rfl,e6⟩ | ⟨ds,rfl,e6⟩
       ·obtain ⟨v,e7,e8⟩:=h2.slot i (.val d) (by rw [List.getElem?_map,e6];rfl)
        exact ⟨v,e7,Is.mono g'.up e8⟩
       ·obtain ⟨v,e7,e8⟩:=r'.slot i _ e6
        have e9:=r'.bor i ds e6
        rw [e7] at e9
        exact ⟨v,by rw [List.getElem?_map,vst e9.symm];rfl,e8⟩
      dist:=fun i j q q' v e e' m m' s1 s2=>by
       obtain ⟨_,e4,e5⟩:=getMap e
       cases e5
       obtain ⟨_,e6,e7⟩:=getMap e'
       cases e7
       rcases f2 i q e4 with ⟨d,rfl,_⟩ | ⟨ds,rfl,e8⟩
       ·cases m
       rcases f2 j q' e6 with ⟨d,rfl,_⟩ | ⟨ds',rfl,e9⟩
       ·cases m'
       obtain ⟨v1,a1,_⟩:=getMap s1
       obtain ⟨v2,a2,a3⟩:=getMap s2
       have b1:=r'.bor i ds e8
       have b2:=r'.bor j ds' e9
       rename_i b3
       cases b3
       cases a3
       rw [stv a1] at b1
       rw [stv a2] at b2
       exact r'.dist i j _ _ v e8 e9 rfl rfl b1 b2
      bor:=fun i ds e=>rfl }
     have ap:∀ {σ':L2.St}{H' I':Hp}{p:Addr},Rep K (fun i=>(L2.start N vs)[i]?) G I' H' σ' Γ'->Apart σ' Γ' p->Apart (vs.map some) (l.map some) p:=fun {σ' H' I' p} r' a i q e m z=>by
      obtain ⟨_,e4,e5⟩:=getMap e
      cases e5
      rcases f2 i q e4 with ⟨d,rfl,_⟩ | ⟨ds,rfl,e8⟩
      ·cases m
      obtain ⟨v1,a1,a2⟩:=getMap z
      cases a2
      exact a i _ e8 rfl ((r'.bor i ds e8).trans (stv a1))
     refine ⟨G,I,_,fl,Γ',rep0,e1,fun σ' H' I' r' g'=>?_⟩
     cases fl with
     | nx=>cases e2;exact h5 _ H' I' (back r' g') g' (show Is K I' D.non V.non from Is.non)
     | bk=>cases e2
     | ct=>cases e2
     | rt r0 =>
      cases e2
      intro v hv
      refine h5 v H' I' (back r' g') g' ?_
      cases rr with
      | val d=>exact hv
      | bor d=>exact hv
      | fro d=>exact hv
      | dic d =>
       obtain ⟨p,xs,b1,b2,b3,b4,b5,b6⟩:=hv
       exact ⟨p,xs,b1,b2,b3,b4,ap r' b5,b6⟩
      | own d =>
       obtain ⟨p,xs,b1,b2,b3,b4,b5,b6⟩:=hv
       exact ⟨p,xs,b1,b2,b3,b4,ap r' b5,b6⟩
end
mutual
def noL:D->Bool
 | .tup ds=>noLA ds
 | .lst _=>false
 | _=>true
def noLA:List D->Bool
 | []=>true
 | d::ds=>noL d&&noLA ds
end
def tupOf (I0 I:Hp):Hp:=fun b=>match I0 b with
 | some o=>some o
 | none=>match I b with
  | some (.lst _)=>none
  | o=>o
theorem k9' {I0 I:Hp}:Same I0 (tupOf I0 I):=fun b o e=>by unfold tupOf;rw [e]
theorem ii' {I0 I:Hp}{b:Addr}{o:HO} (h:tupOf I0 I b=some o):I0 b=some o\/(I0 b=none/\I b=some o/\∀ xs,o≠.lst xs):=by
 unfold tupOf at h
 cases e:I0 b with
 | some o'=>rw [e] at h;cases h;exact .inl rfl
 | none =>
  rw [e] at h
  cases e1:I b with
  | none=>rw [e1] at h;cases h
  | some o' =>
   rw [e1] at h
   cases o'<;>first | (cases h;exact .inr ⟨rfl,rfl,fun xs z=>by cases z⟩) | cases h
theorem la' {I0 I:Hp} (s:Same I0 I){b:Addr}{o:HO} (h:I b=some o) (n:∀ xs,o≠.lst xs):tupOf I0 I b=some o:=by
 unfold tupOf
 cases e:I0 b with
 | some o'=>rw [s b o' e] at h;exact h
 | none =>
  simp only [h]
  split
  ·rename_i z
   cases z
   exact absurd rfl (n _)
  ·rfl
mutual
theorem qz' {K:PySem.W.Frag}{I0 I:Hp} (s:Same I0 I):∀ (d:D) (v:V),noL d=true->Is K I d v->Is K (tupOf I0 I) d v
 | .non,_,_,h=>by rw [Is] at h ⊢;exact h
 | .bl _,_,_,h=>by rw [Is] at h ⊢;exact h
 | .int _,_,_,h=>by rw [Is] at h ⊢;exact h
 | .str _,_,_,h=>by rw [Is] at h ⊢;exact h
 | .lst _,_,n,_=>by simp [noL] at n
 | .tup ds,v,n,h=>by
  rw [noL] at n
  obtain ⟨a,xs,rfl,h1,h2⟩:=aD' h
  refine Is.tup ?_ (gK' s ds xs n h2)
  rcases h1 with (h1 | ⟨o,h1⟩) | h1
  ·exact .inl (.inl (la' s h1 fun xs z=>by cases z))
  ·exact .inl (.inr ⟨o,la' s h1 fun xs z=>by cases z⟩)
  ·exact .inr h1
theorem gK' {K:PySem.W.Frag}{I0 I:Hp} (s:Same I0 I):∀ (ds:List D) (xs:List V),noLA ds=true->IsA K I ds xs->IsA K (tupOf I0 I) ds xs
 | [],xs,_,h=>by rw [h.nil_inv];exact IsA.nil
 | d::ds,xs,n,h=>by
  rw [noLA,Bool.and_eq_true] at n
  obtain ⟨x,r,rfl,h1,h2⟩:=h.cons_inv
  exact IsA.cons (qz' s d x n.1 h1) (gK' s ds r n.2 h2)
end
section
variable {X:Cx}{B:BB}{e:Expr}{es:List Expr}{pos p:Pos}{x:Str}{k:Nat}{f:Addr}{fd:FuncData}{ps:List Str}{g:List R->Option (R×List R)}{t:M (List D)}
def cvF (g:List R->Option (R×List R)) (ds:List D):Option D:=match g (ds.map .val) with
 | some (.val d,_)=>some d
 | some (.fro d,_)=>some (.lst d)
 | _=>none
def coF (g:List R->Option (R×List R)) (ds:List D):Option (List D):=match g (ds.map .val) with
 | some (.own d,_)=>some d
 | some (.fro d,_)=>if noLA d=true then some d else none
 | _=>none
theorem fg' {K:PySem.W.Frag}{G I H:Hp}{σ:L2.St}{Γ:Gm}{ds:List D}{vs:List V} (r:Rep K B G I H σ Γ) (h:IsA K I ds vs):Rep K (vB vs) H I H (vs.map some) ((ds.map R.val).map some) where
 iH:=r.iH
 gH:=Same.refl _
 len:=by rw [List.length_map,List.length_map,List.length_map,h.length]
 slot:=fun i q e=>by
  obtain ⟨_,e1,e2⟩:=getMap e
  cases e2
  obtain ⟨d,e3,rfl⟩:=getMap e1
  obtain ⟨v,e4,e5⟩:=h.get e3
  exact ⟨v,by rw [List.getElem?_map,e4];rfl,e5⟩
 dist:=fun i j q q' v e e' m=>by
  obtain ⟨_,e1,e2⟩:=getMap e
  cases e2
  obtain ⟨d,e3,rfl⟩:=getMap e1
  cases m
 bor:=fun i ds e=>rfl
theorem c5' (ds:List D):(ds.map R.val).all noOwn=true:=by
 induction ds with
 | nil=>rfl
 | cons d r ih=>rw [List.map_cons,List.all_cons,ih];rfl
theorem gd' {K:PySem.W.Frag}{B':BB}{G I I' H H':Hp}{σ σ':L2.St}{Γ Γ':Gm} (r:Rep K B G I H σ Γ) (r':Rep K B' H I' H' σ' Γ') (g':Grow H I I'):Rep K B G I' H' σ Γ/\Grow G I I' :=
 ⟨r.ext g'.up r'.gH r'.iH g'.new,g'.up,fun b o e=>(g'.new b o e).imp (fun z=>z) fun z=>r.gFree z⟩
theorem t_cv {K:PySem.W.Frag}{E:XK}:∀ σ H Q,tD K B (fn1 (cvF g) t) σ H Q->tCall (spD K g) [] E (tAD K B t) σ H Q:=fun σ H Q q=>by
 obtain ⟨G,I,Γ,d,Γ',r,e1,kk⟩:=q
 obtain ⟨ds,Γ1,e2,e3⟩:=ai' e1
 obtain ⟨e4,rfl⟩:=ay' e3
 refine ⟨G,I,Γ,ds,_,r,e2,fun vs H1 I1 r1 g1 h1=>?_⟩
 show spD K g (vs++[]) H1 Q E
 rw [List.append_nil]
 unfold cvF at e4
 cases e5:g (ds.map .val) with
 | none=>rw [e5] at e4;cases e4
 | some q =>
  obtain ⟨rr,rs'⟩:=q
  rw [e5] at e4
  cases rr with
  | val d' =>
   cases e4
   refine ⟨H1,I1,ds.map .val,.val d,rs',fg' r1 h1,c5' ds,e5,fun v H' I' r' g' hv=>?_⟩
   obtain ⟨r2,g2⟩:=gd' r1 r' g'
   exact kk v H' I' r2 (g1.trans g2) hv
  | fro d' =>
   cases e4
   refine ⟨H1,I1,ds.map .val,.fro d',rs',fg' r1 h1,c5' ds,e5,fun v H' I' r' g' hv=>?_⟩
   obtain ⟨r2,g2⟩:=gd' r1 r' g'
   obtain ⟨p,xs,rfl,f1,_,f3⟩:=hv
   exact kk _ H' I' r2 (g1.trans g2) (Is.lst (RdK.of f1) f3)
  | own _=>cases e4
  | bor _=>cases e4
  | dic _=>cases e4
theorem t_co {K:PySem.W.Frag}{E:XK}:∀ σ H Q,tO K B (fn1 (coF g) t) σ H Q->tCall (spD K g) [] E (tAD K B t) σ H Q:=fun σ H Q q=>by
 obtain ⟨G,I,Γ,d,Γ',r,e1,kk⟩:=q
 obtain ⟨ds,Γ1,e2,e3⟩:=ai' e1
 obtain ⟨e4,rfl⟩:=ay' e3
 refine ⟨G,I,Γ,ds,_,r,e2,fun vs H1 I1 r1 g1 h1=>?_⟩
 show spD K g (vs++[]) H1 Q E
 rw [List.append_nil]
 unfold coF at e4
 cases e5:g (ds.map .val) with
 | none=>rw [e5] at e4;cases e4
 | some q =>
  obtain ⟨rr,rs'⟩:=q
  rw [e5] at e4
  cases rr with
  | own d' =>
   cases e4
   refine ⟨H1,I1,ds.map .val,.own d,rs',fg' r1 h1,c5' ds,e5,fun v H' I' r' g' hv=>?_⟩
   obtain ⟨r2,g2⟩:=gd' r1 r' g'
   obtain ⟨q,xs,rfl,b2,b3,b4,b5,b6⟩:=hv
   exact kk q xs H' I' r2 (g1.trans g2) b2 b3 (r1.gFree b4) (r1.apart b4) b6
  | fro d' =>
   obtain ⟨nl,e4⟩:=aQ' e4
   subst e4
   refine ⟨H1,I1,ds.map .val,.fro d,rs',fg' r1 h1,c5' ds,e5,fun v H' I' r' g' hv=>?_⟩
   obtain ⟨p,xs,rfl,f1,f2,f3⟩:=hv
   have new:∀ b o,tupOf I1 I' b=some o->I1 b=some o\/H1 b=none:=fun b o e=>by
    rcases ii' e with z | ⟨_,z,_⟩
    ·exact .inl z
    ·exact g'.new b o z
   have r2:Rep K B G (tupOf I1 I') H' σ _:=r1.ext k9' r'.gH (fun b o e=>by
    rcases ii' e with z | ⟨_,z,_⟩
    ·exact r'.iH b o (g'.up b o z)
    ·exact r'.iH b o z) new
   refine kk p xs H' (tupOf I1 I') r2 (g1.trans ⟨k9',fun b o e=>(new b o e).imp (fun z=>z) fun z=>r1.gFree z⟩) (r'.iH p _ f1) ?_ (r1.gFree f2) (r1.apart f2) (gK' g'.up _ _ nl f3)
   cases e:tupOf I1 I' p with
   | none=>rfl
   | some o =>
    rcases ii' e with z | ⟨_,z,zn⟩
    ·rw [r1.iFree f2] at z;cases z
    ·rw [f1] at z;cases z;exact absurd rfl (zn _)
  | val _=>cases e4
  | bor _=>cases e4
  | dic _=>cases e4
variable {CXd:Nat}{b:Expr}
theorem aq' (F:FnOk X.prog X.w X.K X.mg X.base CX0 k f fd ps (spD X.K g)) (hr:Room k X.A) (hg:Gl X x) (hm:X.mg x=some (.ref f)) (hk:PySem.W.keepIn X.K (.ref f)=true) (hb:Binds X.K fd ps []) (ha:AD X B (e::es) t)
  (hdb:(x == ("__debug__":Str))=false:=by decide) (he:starEach (e::es) X.env=(false,eval e X.env)::starEach es X.env:=by rfl) (hpl:(backTo pos (starEach es X.env)).any (·.1)=false:=by rfl) :
  ED X B (.Call (.Name x p) (e::es) [] pos) (fn1 (cvF g) t):=PE.imp (f0' F hr hg hm hk hb .nil pass0 ha hdb he hpl) t_cv
theorem bk' (F:FnOk X.prog X.w X.K X.mg X.base CX0 k f fd ps (spD X.K g)) (hr:Room k X.A) (hg:Gl X x) (hm:X.mg x=some (.ref f)) (hk:PySem.W.keepIn X.K (.ref f)=true) (hb:Binds X.K fd ps []) (ha:AD X B (e::es) t)
  (hdb:(x == ("__debug__":Str))=false:=by decide) (he:starEach (e::es) X.env=(false,eval e X.env)::starEach es X.env:=by rfl) (hpl:(backTo pos (starEach es X.env)).any (·.1)=false:=by rfl) :
  EO X B (.Call (.Name x p) (e::es) [] pos) (fn1 (coF g) t):=PE.imp (f0' F hr hg hm hk hb .nil pass0 ha hdb he hpl) t_co
def hide (H:Hp) (p:Addr):Hp:=fun b=>if b=p then none else H b
theorem j2' {H:Hp}{p:Addr}:hide H p p=none:=by unfold hide;rw [if_pos rfl]
theorem ed' {H:Hp}{p b:Addr} (h:b≠p):hide H p b=H b:=by unfold hide;rw [if_neg h]
theorem o7' {H:Hp}{p:Addr}:Same (hide H p) H:=fun b o e=>by
 by_cases h:b=p
 ·subst h;rw [j2'] at e;cases e
 ·rw [ed' h] at e;exact e
def bcF (g:List R->Option (R×List R)) (c ds:List D):Option (R×List D):=match g (.bor c::ds.map .val) with
 | some (r,.bor c'::_)=>some (r,c')
 | _=>none
def callB (i:Nat) (g:List R->Option (R×List R)) (t:M (List D)):M R:=mutS i (bnd t fun ds=>fun Γ1=>match Γ1[i]? with
 | some (some (.own c))=>match bcF g c ds with
  | some (r,c')=>some (r,Γ1.set i (some (.own c')))
  | none=>none
 | some (some (.bor c))=>match bcF g c ds with
  | some (r,c')=>some (r,Γ1.set i (some (.bor c')))
  | none=>none
 | _=>none)
def asV (r:R):Option D:=match r with
 | .val d=>some d
 | _=>none
def asO (r:R):Option (List D):=match r with
 | .own d=>some d
 | _=>none
def cbV (i:Nat) (g:List R->Option (R×List R)) (t:M (List D)):M D:=bnd (callB i g t) fun r=>lft (asV r)
def cbO (i:Nat) (g:List R->Option (R×List R)) (t:M (List D)):M (List D):=bnd (callB i g t) fun r=>lft (asO r)
theorem Rep.extBut {K:PySem.W.Frag}{G I I' H H':Hp}{σ:L2.St}{Γ:Gm} (r:Rep K B G I H σ Γ){q:Addr} (ap:Apart σ Γ q) (gq:G q=none) (iq:I q=none) (iq':I' q=none) (hI:Same I I') (hH:∀ b o,H b=some o->b≠q->H' b=some o) (iH:Same I' H')
  (new:∀ b o,I' b=some o->I b=some o\/H b=none\/b=q):Rep K B G I' H' σ Γ where
 iH:=iH
 gH:=fun b o e=>hH b o (r.gH b o e) (fun z=>by subst z;rw [gq] at e;cases e)
 len:=r.len
 slot:=fun i qr e=>by
  obtain ⟨v,e1,e2⟩:=r.slot i qr e
  refine ⟨v,e1,?_⟩
  have mt:qr.ptr=true->∀ ds,Mt K G I H ds v->Mt K G I' H' ds v:=fun m ds h=>by
   obtain ⟨p2,xs,h1,h2,h3,h4,h5⟩:=h
   have ne:p2≠q:=fun z=>ap i qr e m (by rw [e1,h1,z])
   refine ⟨p2,xs,h1,hH _ _ h2 ne,?_,h4,h5.mono hI⟩
   cases z:I' p2 with
   | none=>rfl
   | some o =>
    rcases new p2 o z with z1 | z1 | z1
    ·rw [h3] at z1;cases z1
    ·rw [h2] at z1;cases z1
    ·exact absurd z1 ne
  cases qr with
  | val d=>exact Is.mono hI e2
  | dic ds =>
   obtain ⟨p2,xs,h1,h2,h3,h4,h5⟩:=e2
   have ne:p2≠q:=fun z=>ap i _ e rfl (by rw [e1,h1,z])
   refine ⟨p2,xs,h1,hH _ _ h2 ne,?_,h4,h5.mono hI⟩
   cases z:I' p2 with
   | none=>rfl
   | some o =>
    rcases new p2 o z with z1 | z1 | z1
    ·rw [h3] at z1;cases z1
    ·rw [h2] at z1;cases z1
    ·exact absurd z1 ne
  | own ds=>exact mt rfl ds e2
  | bor ds=>exact mt rfl ds e2
  | fro ds=>obtain ⟨p,xs,f1,f2,f3,f4⟩:=e2;exact ⟨p,xs,f1,hI _ _ f2,f3,f4.mono hI⟩
 dist:=r.dist
 bor:=r.bor
theorem borrow {K:PySem.W.Frag}{G I H:Hp}{σ:L2.St}{Γ:Gm}{i:Nat}{q q':R}{c c' ds:List D}{rr:R}{ws:List V}{Q:VK}{E:XK} (r:Rep K B G I H σ Γ) (hq:Γ[i]?=some (some q)) (hc:(q=.own c/\q'=.own c')\/(q=.bor c/\q'=.bor c')) (hd:IsA K I ds ws){v0:V} (hv0:σ[i]?=some (some v0))
  (hg:bcF g c ds=some (rr,c')) (k:∀ v H' I',Rep K B G I' H' σ (Γ.set i (some q'))->Grow G I I'->ResOk K G I' H' σ (Γ.set i (some q')) rr v->Q v H'):spD K g (v0::ws) H Q E:=by
 obtain ⟨v,e1,e2⟩:=r.slot i q hq
 rw [hv0] at e1
 cases e1
 have hm:q.ptr=true:=by rcases hc with ⟨rfl,_⟩ | ⟨rfl,_⟩<;>rfl
 have mt:Mt K G I H c v0:=by rcases hc with ⟨rfl,_⟩ | ⟨rfl,_⟩<;>exact e2
 obtain ⟨a,xs,rfl,h1,h2,h3,h4⟩:=mt
 unfold bcF at hg
 cases e3:g (.bor c::ds.map .val) with
 | none=>rw [e3] at hg;cases hg
 | some z =>
  obtain ⟨r0,rs'⟩:=z
  rw [e3] at hg
  cases rs' with
  | nil=>cases hg
  | cons y rs' =>
   cases y with
   | val _=>cases hg
   | own _=>cases hg
   | fro _=>cases hg
   | dic _=>cases hg
   | bor c2 =>
    cases hg
    refine ⟨hide H a,I,.bor c::ds.map .val,rr,.bor c'::rs',?_,by rw [List.all_cons,c5'];rfl,e3,fun v H' I' r' g' hv=>?_⟩
    ·have rv:=fg' r hd
     exact {
      iH:=r.iH,gH:=o7'
      len:=by rw [List.map_cons,List.map_cons,List.length_cons,List.length_cons,rv.len]
      slot:=fun j qr e=>by
       cases j with
       | zero=>cases e;exact ⟨_,rfl,a,xs,rfl,h1,h2,j2',h4⟩
       | succ j =>
        obtain ⟨w,e4,e5⟩:=rv.slot j qr (by simpa using e)
        refine ⟨w,by simpa using e4,?_⟩
        have e9:((ds.map R.val).map some)[j]?=some (some qr):=e
        obtain ⟨z,f1,f2⟩:=getMap e9
        cases f2
        obtain ⟨d,f3,rfl⟩:=getMap f1
        exact e5
      dist:=fun j l qr qr' w e e' m m' s1 s2=>by
       have only:∀ {j:Nat}{qr:R},((R.bor c::ds.map R.val).map some)[j]?=some (some qr)->qr.ptr=true->j=0:=fun {j qr} e m=>by
        cases j with
        | zero=>rfl
        | succ j =>
         have e9:((ds.map R.val).map some)[j]?=some (some qr):=e
         obtain ⟨z,f1,f2⟩:=getMap e9
         cases f2
         obtain ⟨d,f3,rfl⟩:=getMap f1
         cases m
       rw [only e m,only e' m']
      bor:=fun j es e=>rfl }
    ·obtain ⟨w,e4,e5⟩:=r'.slot 0 (.bor c') rfl
     cases e4
     obtain ⟨a',xs',e6,f1,f2,f3,f4⟩:=e5
     cases e6
     have oth:Apart σ (Γ.set i none) a:=fun j r1 z m s=>by
      rcases aX' z with ⟨_,z',_⟩ | ⟨n,z'⟩
      ·cases z'
      ·exact n (r.dist j i r1 q _ z' hq m hm s hv0)
     have r1:=(r.forget i).extBut (q:=a) oth h3 h2 f2 g'.up (fun b o e n=>r'.gH b o (by rw [ed' n];exact e)) r'.iH (fun b o e=>by
      rcases g'.new b o e with z | z
      ·exact .inl z
      ·by_cases n:b=a
       ·exact .inr (.inr n)
       ·rw [ed' n] at z;exact .inr (.inl z))
     have r2:=r1.learn (i:=i) (q:=q') (v:=.ref a) hv0 (by rcases hc with ⟨_,rfl⟩ | ⟨_,rfl⟩<;>exact ⟨a,xs',rfl,f1,f2,h3,f4⟩) (fun m p2 e j r' n z m' s=>by
      cases e
      exact oth j r' z m' s) (fun es z=>by
      rcases hc with ⟨_,rfl⟩ | ⟨rfl,rfl⟩
      ·cases z
      ·exact r.bor i c hq)
     rw [List.set_set] at r2
     have g2:Grow G I I':=⟨g'.up,fun b o e=>by
      rcases g'.new b o e with z | z
      ·exact .inl z
      ·by_cases n:b=a
       ·subst n;exact .inr h3
       ·rw [ed' n] at z;exact .inr (r.gFree z)⟩
     refine k v H' I' r2 g2 ?_
     cases rr with
     | val d=>exact hv
     | bor d=>exact hv
     | fro d =>
      obtain ⟨p2,ys,b1,b2,b3,b4⟩:=hv
      have ne:p2≠a:=fun z=>by rw [z,f2] at b2;cases b2
      rw [ed' ne] at b3
      exact ⟨p2,ys,b1,b2,r.gFree b3,b4⟩
     | dic d =>
      obtain ⟨p2,ys,b1,b2,b3,b4,b5,b6⟩:=hv
      have ne:p2≠a:=fun z=>b5 0 (.bor c') rfl rfl (by rw [z];rfl)
      rw [ed' ne] at b4
      refine ⟨p2,ys,b1,b2,b3,r.gFree b4,fun j r3 z m s=>?_,b6⟩
      rcases aX' z with ⟨rfl,z',_⟩ | ⟨n,z'⟩
      ·rw [hv0] at s;cases s;exact ne rfl
      ·exact r.apart b4 j r3 z' m s
     | own d =>
      obtain ⟨p2,ys,b1,b2,b3,b4,b5,b6⟩:=hv
      have ne:p2≠a:=fun z=>b5 0 (.bor c') rfl rfl (by rw [z];rfl)
      rw [ed' ne] at b4
      refine ⟨p2,ys,b1,b2,b3,r.gFree b4,fun j r3 z m s=>?_,b6⟩
      rcases aX' z with ⟨rfl,z',_⟩ | ⟨n,z'⟩
      ·rw [hv0] at s;cases s;exact ne rfl
      ·exact r.apart b4 j r3 z' m s
theorem j3' {i:Nat}{t:M (List D)}{Γ Γ':Gm}{rr:R} (h:callB i g t Γ=some (rr,Γ')):isMut Γ i=true/\∃ ds Γ1 q q' c c',t Γ=some (ds,Γ1)/\Γ1[i]?=some (some q)/\((q=.own c/\q'=.own c')\/(q=.bor c/\q'=.bor c'))/\bcF g c ds=some (rr,c')/\Γ'=Γ1.set i (some q'):=by
 obtain ⟨hm,h⟩:=ck' h
 obtain ⟨ds,Γ1,e1,e2⟩:=ai' h
 refine ⟨hm,ds,Γ1,?_⟩
 cases e:Γ1[i]? with
 | none=>simp only [e] at e2;cases e2
 | some o =>
  cases o with
  | none=>simp only [e] at e2;cases e2
  | some q =>
   cases q with
   | val d=>simp only [e] at e2;cases e2
   | fro d=>simp only [e] at e2;cases e2
   | dic d=>simp only [e] at e2;cases e2
   | own c =>
    simp only [e] at e2
    cases e3:bcF g c ds with
    | none=>simp only [e3] at e2;cases e2
    | some z =>
     obtain ⟨r0,c'⟩:=z
     simp only [e3] at e2
     cases e2
     exact ⟨.own c,.own c',c,c',e1,rfl,.inl ⟨rfl,rfl⟩,e3,rfl⟩
   | bor c =>
    simp only [e] at e2
    cases e3:bcF g c ds with
    | none=>simp only [e3] at e2;cases e2
    | some z =>
     obtain ⟨r0,c'⟩:=z
     simp only [e3] at e2
     cases e2
     exact ⟨.bor c,.bor c',c,c',e1,rfl,.inr ⟨rfl,rfl⟩,e3,rfl⟩
theorem ua' {K:PySem.W.Frag}{E:XK}{i:Nat}:∀ σ H Q,tD K B (cbV i g t) σ H Q->tCall (spD K g) [] E (tCons (tVar i) (tAD K B t)) σ H Q:=fun σ H Q q=>by
 obtain ⟨G,I,Γ,d,Γ',r,e1,kk⟩:=q
 obtain ⟨rr,Γ0,e2,e3⟩:=ai' e1
 obtain ⟨e4,rfl⟩:=ay' e3
 obtain ⟨hm,ds,Γ1,q,q',c,c',f1,f2,f3,f4,rfl⟩:=j3' e2
 obtain ⟨a,xs,h1,h2⟩:=bY' hm r
 refine ⟨_,h1,G,I,Γ,ds,Γ1,r,f1,fun ws H1 I1 r1 g1 hd=>?_⟩
 show spD K g ((.ref a::ws)++[]) H1 Q E
 rw [List.append_nil]
 refine borrow r1 f2 f3 hd h1 f4 fun v H' I' r' g' hv=>?_
 cases rr with
 | val d'=>cases e4;exact kk v H' I' r' (g1.trans g') hv
 | own _=>cases e4
 | bor _=>cases e4
 | fro _=>cases e4
 | dic _=>cases e4
theorem ub' {K:PySem.W.Frag}{E:XK}{i:Nat}:∀ σ H Q,tO K B (cbO i g t) σ H Q->tCall (spD K g) [] E (tCons (tVar i) (tAD K B t)) σ H Q:=fun σ H Q q=>by
 obtain ⟨G,I,Γ,d,Γ',r,e1,kk⟩:=q
 obtain ⟨rr,Γ0,e2,e3⟩:=ai' e1
 obtain ⟨e4,rfl⟩:=ay' e3
 obtain ⟨hm,ds,Γ1,q,q',c,c',f1,f2,f3,f4,rfl⟩:=j3' e2
 obtain ⟨a,xs,h1,h2⟩:=bY' hm r
 refine ⟨_,h1,G,I,Γ,ds,Γ1,r,f1,fun ws H1 I1 r1 g1 hd=>?_⟩
 show spD K g ((.ref a::ws)++[]) H1 Q E
 rw [List.append_nil]
 refine borrow r1 f2 f3 hd h1 f4 fun v H' I' r' g' hv=>?_
 cases rr with
 | own d' =>
  cases e4
  obtain ⟨p2,ys,rfl,b2,b3,b4,b5,b6⟩:=hv
  exact kk p2 ys H' I' r' (g1.trans g') b2 b3 b4 b5 b6
 | val _=>cases e4
 | bor _=>cases e4
 | fro _=>cases e4
 | dic _=>cases e4
theorem aH' {i:Nat}{y:Str}{py:Pos} (F:FnOk X.prog X.w X.K X.mg X.base CX0 k f fd ps (spD X.K g)) (hr:Room k X.A) (hg:Gl X x) (hm:X.mg x=some (.ref f)) (hk:PySem.W.keepIn X.K (.ref f)=true) (hb:Binds X.K fd ps []) (hv:PE X (.Name y py) (tVar i)) (ha:AD X B es t)
  (hdb:(x == ("__debug__":Str))=false:=by decide) (he:starEach (.Name y py::es) X.env=(false,eval (.Name y py) X.env)::starEach es X.env:=by rfl) (hpl:(backTo pos (starEach es X.env)).any (·.1)=false:=by rfl) :
  ED X B (.Call (.Name x p) (.Name y py::es) [] pos) (cbV i g t):=PE.imp (f0' F hr hg hm hk hb .nil pass0 (c3' hv ha he) hdb he hpl) ua'
theorem qA' {i:Nat}{y:Str}{py:Pos} (F:FnOk X.prog X.w X.K X.mg X.base CX0 k f fd ps (spD X.K g)) (hr:Room k X.A) (hg:Gl X x) (hm:X.mg x=some (.ref f)) (hk:PySem.W.keepIn X.K (.ref f)=true) (hb:Binds X.K fd ps []) (hv:PE X (.Name y py) (tVar i)) (ha:AD X B es t)
  (hdb:(x == ("__debug__":Str))=false:=by decide) (he:starEach (.Name y py::es) X.env=(false,eval (.Name y py) X.env)::starEach es X.env:=by rfl) (hpl:(backTo pos (starEach es X.env)).any (·.1)=false:=by rfl) :
  EO X B (.Call (.Name x p) (.Name y py::es) [] pos) (cbO i g t):=PE.imp (f0' F hr hg hm hk hb .nil pass0 (c3' hv ha he) hdb he hpl) ub'
end
end DL
namespace DL
open PySem PySem.Spec PyProof.Rows L2
def relab (sc osc:Scope):Scope:={ sc with names:=sc.names.map fun (n,k)=>if (k == .free&&osc.kind == .function&&osc.names.lookup n == some .cell) then (n,.cell) else (n,k) }
def clo (cells:List (Str×Addr)):List (Str×NameKind)->List (Str×Addr)->List (Str×Addr)
 | [],acc=>acc
 | (n,k)::r,acc=>if k == .free then clo cells r ((n,(cells.lookup n).getD 0)::acc) else clo cells r acc
theorem j4' {env:Env} (f:Str×NameKind->List (Str×Addr)->Sem (ForInStep (List (Str×Addr))))
  (hf:∀ name kind cs,f (name,kind) cs=if kind == .free then (do let a ← cellOf env name;pure (.yield ((name,a)::cs))) else pure (.yield cs)) :
  ∀ (names:List (Str×NameKind)) (acc:List (Str×Addr)),(∀ n,(n,NameKind.free)∈names->∃ c,env.cells.lookup n=some c)->(forIn names acc f:Sem _)=pure (clo env.cells names acc)
 | [],acc,_=>by rw [List.forIn_nil];rfl
 | (n,k)::r,acc,h=>by
  rw [List.forIn_cons,hf]
  unfold clo
  have ih:=fun acc'=>j4' f hf r acc' (fun n hn=>h n (List.mem_cons_of_mem _ hn))
  by_cases hk:(k == NameKind.free)=true
  ·rw [if_pos hk,if_pos hk]
   have hk':k=.free:=by simpa using hk
   subst hk'
   obtain ⟨c,hc⟩:=h n List.mem_cons_self
   have e:cellOf env n=pure c:=by unfold cellOf;rw [hc]
   rw [e,hc]
   simp only [pure_bind,Option.getD_some]
   exact ih _
  ·rw [if_neg hk,if_neg hk]
   simp only [pure_bind]
   exact ih _
theorem f2' {scope:Scope}{env:Env} (h:∀ n,(n,NameKind.free)∈scope.names->∃ c,env.cells.lookup n=some c):closureFor scope env=pure (clo env.cells scope.names []):=by
 unfold closureFor
 dsimp only
 rw [j4' (env:=env) _ (fun name kind cs=>by cases hk:kind == NameKind.free<;>simp [hk]) scope.names [] h]
 rfl
theorem hG' {cells:List (Str×Addr)}:∀ {names:List (Str×NameKind)}{acc:List (Str×Addr)}{x:Str}{c:Addr},(x,c)∈clo cells names acc->(x,c)∈acc\/((x,NameKind.free)∈names/\c=(cells.lookup x).getD 0)
 | [],acc,x,c,h=>.inl h
 | (n,k)::r,acc,x,c,h=>by
  unfold clo at h
  by_cases hk:(k == NameKind.free)=true
  ·rw [if_pos hk] at h
   have hk':k=.free:=by simpa using hk
   subst hk'
   rcases hG' h with z | ⟨z1,z2⟩
   ·rcases List.mem_cons.mp z with z | z
    ·cases z;exact .inr ⟨List.mem_cons_self,rfl⟩
    ·exact .inl z
   ·exact .inr ⟨List.mem_cons_of_mem _ z1,z2⟩
  ·rw [if_neg hk] at h
   rcases hG' h with z | ⟨z1,z2⟩
   ·exact .inl z
   ·exact .inr ⟨List.mem_cons_of_mem _ z1,z2⟩
theorem ji' {cells:List (Str×Addr)}:∀ {names:List (Str×NameKind)}{acc:List (Str×Addr)}{x:Str},((x,NameKind.free)∈names\/∃ c,acc.lookup x=some c)->∃ c,(clo cells names acc).lookup x=some c
 | [],acc,x,h=>by
  rcases h with h | h
  ·cases h
  ·exact h
 | (n,k)::r,acc,x,h=>by
  unfold clo
  have push:∀ c0:Addr,(∃ c,acc.lookup x=some c)->∃ c,((n,c0)::acc).lookup x=some c:=fun c0 ⟨c,hc⟩=>by
   rw [List.lookup_cons]
   cases x == n
   ·exact ⟨c,hc⟩
   ·exact ⟨c0,rfl⟩
  by_cases hk:(k == NameKind.free)=true
  ·rw [if_pos hk]
   refine ji' ?_
   rcases h with h | h
   ·rcases List.mem_cons.mp h with z | z
    ·cases z
     exact .inr ⟨_,by rw [List.lookup_cons,beq_self_eq_true]⟩
    ·exact .inl z
   ·exact .inr (push _ h)
  ·rw [if_neg hk]
   refine ji' ?_
   rcases h with h | h
   ·rcases List.mem_cons.mp h with z | z
    ·cases z;exact absurd (by rfl) hk
    ·exact .inl z
   ·exact .inr h
structure CompScope (osc sc:Scope) (N N':List Str) (m:Nat):Prop where
 kind:sc.kind=.function
 nocell:∀ y∈sc.names,y.2≠.cell
 locals:∀ y∈sc.names,y.2=.local->sc.names.lookup y.1=some .local
 free:∀ y∈sc.names,y.2=.free->osc.names.lookup y.1=some .cell\/osc.names.lookup y.1=some .free
 nd:N'.Nodup
 len:N'.length=m+N.length
 up:∀ p∈(N'.drop m).zip N,((relab sc osc).names.lookup p.1=none)\/(p.1=p.2/\(relab sc osc).names.lookup p.1≠some .local)
def cxC (X:Cx) (scope:Scope) (N':List Str) (C:Addr) (s:Shared) (H:Hp) (ex:List Addr):Cx :=
 { X with N:=N',s₀:=s,H₀:=H,env:=compEnvC scope (clo X.env.cells scope.names []) C X.env,outer:=X.stack,stack:=X.stack,ex:=ex,fn:=fun _=>false,pn:=[],xe:=fun _ _=>False }
def PTs (X:Cx) (ifs:List Expr) (t:TT):Prop :=
 ∀ (pins:List (Addr×Obj)) (s:Shared) (σ:L2.St) (H:Hp) (Q:Bool->Hp->Prop),Inv X pins σ H s->t σ H Q →
  wpAny (model X.prog X.w) X.A (forIn ifs true fun c r=>if r=true then do let ok ← isTrue c X.env (eval c X.env);pure (ForInStep.yield ok) else pure (ForInStep.yield r)) (TP X pins σ Q) X.xe s
theorem rS' {X:Cx}:PTs X [] (fun _ H Q=>Q true H):=fun pins s σ H Q I h=>wpAny_tests_nil ⟨H,I,h⟩
theorem rT' {X:Cx}{c:Expr}{t:TT} (h:PT X c t):PTs X [c] t:=fun pins s σ H Q I q=>wpAny_tests_one (h pins s σ H Q I q)
abbrev calm (P:Program) (w:World) (A:Around){α:Type} (m:Sem α) (Q:α->Shared->Prop) (s:Shared):Prop:=wpAny (model P w) A m Q (fun _ _=>False) s
theorem calm.on {P:Program}{w:World}{A:Around}{α β:Type}{m:Sem α}{f:α->Sem β}{Q:α->Shared->Prop}{K:β->Shared->Prop}{E:Value->Shared->Prop}{s:Shared} (h:calm P w A m Q s) (k:∀ a s',Q a s'->wpAny (model P w) A (f a) K E s'):wpAny (model P w) A (m >>= f) K E s :=
 wpAny_bind (wpAny_mono h k fun _ _ no=>no.elim)
def TurnMeets (P:Program) (w:World) (A:Around) (src bag:Value) (tg elt:Expr) (ifs:List Expr) (env:Env) (again out:Shared->Prop) (s:Shared):Prop :=
 calm P w A (pyNext src) (fun got s=>match got with
  | none=>out s
  | some v=>calm P w A (letOwnedTupleGo tg src v) (fun _ s=>calm P w A (assign tg env v) (fun _ s =>
    calm P w A (forIn ifs true fun c r=>if r=true then do let ok ← isTrue c env (eval c env);pure (ForInStep.yield ok) else pure (ForInStep.yield r)) (fun yes s =>
     cond yes (calm P w A (eval elt env) (fun x s=>calm P w A (call (.builtin "list.append") [bag,x]) (fun _ s=>again s) s) s) (again s)) s) s) s) s
theorem n1' {P:Program}{w:World}{A:Around}{out:Result->Shared->Prop}{s:Shared}{elt tg from':Expr}{ifs:List Expr}{sc:Scope}{at':Pos}{src bag:Value}{env:Env} (W:Nat->Shared->Prop)
  (each:∀ left s,W left s->TurnMeets P w A src bag tg elt ifs env (fun s'=>∃ less,less < left/\W less s') (out (.ok .next)) s) (left:Nat) (start:W left s) :
  codeAny (model P w) A (.compLoop (.ListComp elt [⟨tg,from',ifs,0⟩] sc at') 0 src bag env) out s:=by
 refine codeAny_loop rfl W (fun left s here=>?_) left start
 have turn:=each left s here
 unfold TurnMeets at turn
 refine wpAny_noted ?_
 rw [compTurn_list]
 refine wpAny_bind (wpAny_standAt (turn.on fun got s1 h1=>?_))
 cases got with
 | none=>exact wpAny_pure h1
 | some v=>exact calm.on h1 fun _ _ h2=>calm.on h2 fun _ _ h3=>calm.on h3 fun yes s4 h4=>match yes,h4 with
  | false,h4=>wpAny_pure (And.intro rfl h4)
  | true,h4=>wpAny_bind (calm.on h4 fun _ _ h5=>calm.on h5 fun _ _ h6=>wpAny_pure (wpAny_pure (And.intro rfl h6)))
def Clear (X:Cx) (pins:List (Addr×Obj)) (H:Hp) (C:Addr):Prop:=H C=none/\C≠X.env.locals/\X.s₀.heap.objs.size<=C/\(∀ x c,X.env.cells.lookup x=some c->c≠C)/\∀ p∈X.pn++pins,p.1≠C
theorem Inv.clear {X:Cx}{pins:List (Addr×Obj)}{σ:L2.St}{H:Hp}{s:Shared}{h':Heap}{C:Addr} (I:Inv X pins σ H s) (c:Clear X pins H C) (hs:Heap.SameBut C s.heap h'):Inv X pins σ H { s with heap:=h' } :=
 I.turned (t':=s.toks) (fun b o hb e=>(hs.2 b hb).trans e) c.1 c.2.1 (.inr c.2.2.1) c.2.2.2.1 c.2.2.2.2
def CompW (m:Nat) (J:It) (g:TG) (tt:TT) (te:TE) (σ:L2.St) (H1:Hp) (p:Addr) (Q:VK):Prop :=
 ∃ W:Nat->Nat->L2.St->Hp->Prop,(∃ n,W 0 n (List.replicate m none++σ) (upd H1 p (.lst [])))/\∀ i n σ' H',W i n σ' H' →
  (J.stop i H'/\Q (.ref p) H')\/(J.go i H'/\∀ x H2,J.yld i H' x H2->g x σ' H2 fun σ2 H3=>tt σ2 H3 fun b H4 =>
   if b=true then te σ2 H4 fun y H5=>∃ acc,H5 p=some (.lst acc)/\acc.length < sizeLine/\∃ n',n' < n/\W (i+1) n' σ2 (upd H5 p (.lst (acc++[y])))
   else ∃ n',n' < n/\W (i+1) n' σ2 H4)
section
variable {X:Cx}{tg elt iter:Expr}{ifs:List Expr}{scope:Scope}{pos:Pos}{N':List Str}{m:Nat}{g:TG}{tt:TT}{te:TE}
theorem j5' {pins:List (Addr×Obj)}{σ:L2.St}{H2:Hp}{s2:Shared}{it:Addr}{fp:List Addr}{tn:Nat->Heap->Prop}{J:It}{Q:VK}{E:Value->Shared->Prop} (S:CompScope X.env.scope scope X.N N' m) (hc:X.calm=true)
  (hg:∀ C s H ex,PG (cxC X scope N' C s H ex) tg g) (ht:∀ C s H ex,PTs (cxC X scope N' C s H ex) ifs tt) (he:∀ C s H ex,PE (cxC X scope N' C s H ex) elt te)
  (I2:Inv X pins σ H2 s2) (T:Turn X.prog X.w X.K tg J fp it tn) (st2:tn 0 s2.heap) (f2:∀ b∈fp,FpOk X pins H2 b) (hw:∀ p,H2 p=none->CompW m J g tt te σ H2 p Q) :
  wpAny (model X.prog X.w) X.A (newList []) (fun acc s3=>wpAny (model X.prog X.w) X.A (newFunctionEnv scope X.env.globals (clo X.env.cells scope.names []) [] X.env.qual none .none (some X.env)) (fun cenv s4 =>
   codeAny (model X.prog X.w) X.A (.compStart (.ListComp elt [⟨tg,iter,ifs,0⟩] scope pos) 0 (.ref it) acc { cenv with scope:=relabel scope X.env })
    (fun r s'=>match r with | .ok _=>∃ p H' mm,acc=.ref p/\s'.heap.Ns cenv.locals mm/\Inv X pins σ H' s'/\Clear X pins H' cenv.locals/\Q (.ref p) H' | .error _=>False) s4) E s3) E s2:=by
 refine wpAny_newObj_type (wpAny_newFunctionEnv S.nocell (by intro y hy;simp at hy) (fun h1 hns1 hsb1=>?_) S.kind)
 dsimp only at hns1 hsb1 ⊢
 -- the new list
 have hp:H2 s2.heap.objs.size=none:=I2.hok.fresh (Nat.le_refl _)
 obtain ⟨W,⟨n0,w0⟩,turn⟩:=hw _ hp
 obtain ⟨p,hP⟩:∃ p,p=s2.heap.objs.size:=⟨_,rfl⟩
 obtain ⟨s3,hS3⟩:∃ s3:Shared,s3={ s2 with heap:=s2.heap.push { cls:=.type "list", dict:=none,data:=.seq ([]:List Value).toArray } }:=⟨_,rfl⟩
 obtain ⟨C,hC⟩:∃ C,C=s3.heap.objs.size:=⟨_,rfl⟩
 obtain ⟨H3,hH3⟩:∃ H3,H3=upd H2 p (.lst []):=⟨_,rfl⟩
 have h3:s3.heap=s2.heap.push { cls:=.type "list", dict:=none,data:=.seq ([]:List Value).toArray }:=by rw [hS3]
 have hns:h1.Ns C (fun x=>([]:List (Str×Value)).reverse.lookup x):=by rw [hC,h3];exact hns1
 have hsb:Heap.SameBut C (s3.heap.push { cls:=.type "dict", data:=.dict #[] }) h1:=by rw [hC,h3];exact hsb1
 rw [← hP] at hp
 have w0':W 0 n0 (List.replicate m none++σ) H3:=by rw [hH3,hP];exact w0
 have turn':∀ i n σ' H',W i n σ' H'->(J.stop i H'/\Q (.ref p) H')\/(J.go i H'/\∀ x H2,J.yld i H' x H2->g x σ' H2 fun σ2 H3=>tt σ2 H3 fun b H4 =>
   if b=true then te σ2 H4 fun y H5=>∃ acc,H5 p=some (.lst acc)/\acc.length < sizeLine/\∃ n',n' < n/\W (i+1) n' σ2 (upd H5 p (.lst (acc++[y])))
   else ∃ n',n' < n/\W (i+1) n' σ2 H4):=by rw [hP];exact turn
 have I3:Inv X pins σ H3 s3:=by
  rw [hH3,hS3,hP]
  exact I2.laid (t':=s2.toks) (fun b u e=>Heap.get?_push_of_some _ e) (Nat.le_refl _) ⟨Nat.zero_le _,[],0,.nil,Heap.get?_push_size _ rfl⟩
 have st3:tn 0 s3.heap:=T.keep _ _ _ st2 fun b _ o e=>by rw [h3];exact Heap.get?_push_of_some _ e
 have f3:∀ b∈fp,FpOk X pins H3 b:=fun b hb=>by
  obtain ⟨a0,a1⟩:=f2 b hb
  refine ⟨?_,a1⟩
  obtain ⟨o,e,_⟩:=T.obj _ _ st2 b hb
  have ne:b≠p:=fun z=>by
   have:=Heap.lt_size e
   rw [← hP,z] at this
   exact Nat.lt_irrefl _ this
  rw [hH3,am' ne];exact a0
 -- the block's context
 have cells_of:∀ x c,(clo X.env.cells scope.names []).lookup x=some c->X.env.cells.lookup x=some c:=fun x c e=>by
  rcases hG' (mem_of_lookup e) with z | ⟨z1,z2⟩
  ·cases z
  ·obtain ⟨c',hc'⟩:=I2.ok.has x (S.free _ z1 rfl)
   rw [hc'] at z2
   rw [z2];exact hc'
 have clear3:Clear X pins H3 C:=by
  refine ⟨?_,?_,?_,fun x c e z=>?_,fun q hq z=>?_⟩
  ·exact I3.hok.fresh (Nat.le_of_eq hC.symm)
  ·have:=I3.lt;rw [← hC] at this;exact Nat.ne_of_gt this
  ·have:=I3.sz;rw [← hC] at this;exact this
  ·obtain ⟨v,q⟩:=I3.cell x c e
   have:=q.lt;rw [← hC,z] at this;exact Nat.lt_irrefl _ this
  ·have:=Heap.lt_size (I3.pin q hq).1
   rw [← hC,z] at this;exact Nat.lt_irrefl _ this
 have old:∀ b o,s3.heap.get? b=some o->h1.get? b=some o:=fun b o e=>by
  have ne:b≠C:=fun z=>by have:=Heap.lt_size e;rw [← hC,z] at this;exact Nat.lt_irrefl _ this
  exact (hsb.2 b ne).trans (Heap.get?_push_of_some _ e)
 have ok:(cxC X scope N' C s3 H3 fp).Ok:=by
  refine ⟨I3.ok.mod,S.kind,I3.ok.glob,I3.ok.blt,Nat.le_of_eq hC.symm,fun x y c e1 e2=>I3.ok.inj x y c (cells_of x c e1) (cells_of y c e2),fun x hx=>?_,fun x c z=>(nomatch z),fun z=>I3.ok.hd z,I3.ok.frames,.inl rfl,fun b hb=>⟨fun z=>?_,fun x c e=>(f3 b hb).2.2.2.2.1 x c (cells_of x c e)⟩,I3.bs,Nat.le_trans I3.ok.bsz I3.sz,fun b o e hb=>?_,fun b hb z=>?_,I3.stack,fun b hb=>I3.stkFree b hb⟩
  ·-- has
   have hx':(relab scope X.env.scope).names.lookup x=some .cell\/(relab scope X.env.scope).names.lookup x=some .free:=hx
   have mem:∃ k,(x,k)∈(relab scope X.env.scope).names/\(k=NameKind.cell\/k=NameKind.free):=by
    rcases hx' with z | z
    ·exact ⟨_,mem_of_lookup z,.inl rfl⟩
    ·exact ⟨_,mem_of_lookup z,.inr rfl⟩
   obtain ⟨k,hm,hk⟩:=mem
   obtain ⟨⟨n1,k1⟩,hm1,e1⟩:=List.mem_map.mp hm
   refine ji' (.inl ?_)
   dsimp only at e1
   by_cases hcond:(k1 == NameKind.free&&X.env.scope.kind == ScopeKind.function&&X.env.scope.names.lookup n1 == some NameKind.cell)=true
   ·rw [if_pos hcond] at e1
    cases e1
    have:k1=.free:=by
     simp only [Bool.and_eq_true,beq_iff_eq] at hcond
     exact hcond.1.1
    rw [← this];exact hm1
   ·rw [if_neg hcond] at e1
    cases e1
    rcases hk with rfl | rfl
    ·exact absurd rfl (S.nocell _ hm1)
    ·exact hm1
  ·obtain ⟨o,e,_⟩:=T.obj _ _ st3 b hb
   have:=Heap.lt_size e
   rw [← hC] at this
   have z':b=C:=z
   rw [z'] at this;exact Nat.lt_irrefl _ this
  ·obtain ⟨a0,a1,a2,a3,_⟩:=f3 b hb
   rcases a3 with z | z
   ·exact I3.ok.noex b o e z
   ·exact absurd (Nat.lt_of_lt_of_le (Heap.lt_size e) (Nat.le_trans I3.ok.bsz z)) (Nat.lt_irrefl _)
  ·have z':=I3.stkSub b z
   obtain ⟨a0,a1,a2,_⟩:=f3 b hb
   rcases List.mem_cons.mp z' with e | e
   ·exact a1 e
   ·exact a2 e
 -- the block's first state
 have I4:Inv (cxC X scope N' C s3 H3 fp) [] (List.replicate m none++σ) H3 { s3 with heap:=h1,toks:=s3.toks+([]:List (Str×Value)).length }:=by
  obtain ⟨mo,hmo,hlo⟩:=I3.loc
  refine ⟨ok,rfl,I3.bare,Un.kept old,⟨_,hns,fun i x v e1 e2 e3=>?_⟩,fun x c e=>?_,clear3.1,fun x c e=>I3.freeC x c (cells_of x c e),fun q hq=>absurd (show q∈([]:List (Addr×Obj)) from hq) (by simp),I3.hok.kept old,?_⟩
  ·have hi:m<=i:=by
    by_cases z:m<=i
    ·exact z
    ·rw [List.getElem?_append_left (by rw [List.length_replicate];omega),List.getElem?_replicate] at e2
     split at e2<;>cases e2
   rw [List.getElem?_append_right (by rw [List.length_replicate];exact hi),List.length_replicate] at e2
   have e1':N'[i]?=some x:=e1
   have hi2:i - m < X.N.length:=by
    have:=(List.getElem?_eq_some_iff.mp e1').1
    rw [S.len] at this
    omega
   have e4:(N'.drop m)[i - m]?=some x:=by rw [List.getElem?_drop];rw [show m+(i - m)=i from by omega];exact e1'
   have e5:X.N[i - m]?=some X.N[i - m]:=List.getElem?_eq_getElem hi2
   have e6:((N'.drop m).zip X.N)[i - m]?=some (x,X.N[i - m]):=by rw [List.getElem?_zip_eq_some];exact ⟨e4,e5⟩
   have e3':Vis (relab scope X.env.scope) x:=e3
   rcases S.up _ (List.mem_of_getElem? e6) with z | ⟨z1,z2⟩
   ·have z':(relab scope X.env.scope).names.lookup x=none:=z
    rcases e3' with y | y | y<;>rw [z'] at y<;>cases y
   ·have z1':x=X.N[i - m]:=z1
    have z2':(relab scope X.env.scope).names.lookup x≠some .local:=z2
    have hcf:(relab scope X.env.scope).names.lookup x=some .cell\/(relab scope X.env.scope).names.lookup x=some .free:=by
     rcases e3' with y | y | y
     ·exact absurd y z2'
     ·exact .inl y
     ·exact .inr y
    obtain ⟨c,hcl⟩:=ok.has x hcf
    have hxc:=cells_of x c hcl
    -- the name in the def's own frame
    have mem:(x,NameKind.free)∈scope.names:=by
     rcases hG' (mem_of_lookup hcl) with y | ⟨y,_⟩
     ·cases y
     ·exact y
    have visX:Vis X.env.scope x:=by
     rcases S.free _ mem rfl with y | y
     ·exact .inr (.inl y)
     ·exact .inr (.inr y)
    obtain ⟨u,ru,l⟩:=hlo (i - m) x v (by rw [e5,← z1']) e2 visX
    refine ⟨u,ru,.inr ⟨hcf,c,hcl,?_⟩⟩
    rcases l with ⟨k,_⟩ | ⟨_,c',e',z'⟩
    ·have k':X.env.scope.names.lookup x=some .local:=k
     rcases S.free _ mem rfl with y | y<;>(have y':X.env.scope.names.lookup x=_:=y;rw [k'] at y';cases y')
    ·rw [hxc] at e';cases e'
     exact z'.keeps old
  ·obtain ⟨v,q⟩:=I3.cell x c (cells_of x c e)
   exact ⟨v,q.keeps old⟩
  ·show (List.replicate m none++σ).length=N'.length
   rw [List.length_append,List.length_replicate,S.len,I3.len]
 have stat:∀ {H':Hp},(∀ b∈fp,H' b=none)->∀ b∈fp,FpOk (cxC X scope N' C s3 H3 fp) [] H' b:=fun {H'} hn b hb=>by
  refine ⟨hn b hb,(ok.exf b hb).1,ok.exfs b hb,.inl hb,(ok.exf b hb).2,fun q hq=>absurd (show q∈([]:List (Addr×Obj)) from hq) (by simp)⟩
 -- what stands behind the block
 have back:∀ {σ':L2.St}{H':Hp}{s':Shared},Inv (cxC X scope N' C s3 H3 fp) [] σ' H' s'->Inv X pins σ H' s'/\Clear X pins H' C:=fun {σ' H' s'} J'=>by
  refine ⟨I3.call' J'.os J'.base J'.hok J'.bare fun b hb=>?_,J'.free,clear3.2⟩
  obtain ⟨a0,a1,a2,a3,a4,a5⟩:=f3 b hb
  exact ⟨a3,a1,a4,a5⟩
 have loop:∀ s4:Shared,s4={ s3 with heap:=h1,toks:=s3.toks+([]:List (Str×Value)).length } →
   codeAny (model X.prog X.w) X.A (.compLoop (.ListComp elt [⟨tg,iter,ifs,0⟩] scope pos) 0 (.ref it) (.ref p) (compEnvC scope (clo X.env.cells scope.names []) C X.env))
    (fun r s'=>match r with | .ok _=>∃ p' H' mm,Value.ref p=.ref p'/\s'.heap.Ns C mm/\Inv X pins σ H' s'/\Clear X pins H' C/\Q (.ref p') H' | .error _=>False) s4:=by
  rintro s4 rfl
  refine n1' (fun n s'=>∃ i σ' H',Inv (cxC X scope N' C s3 H3 fp) [] σ' H' s'/\tn i s'.heap/\(∀ b∈fp,H' b=none)/\W i n σ' H') ?_ n0 ⟨0,_,_,I4,T.keep _ _ _ st3 fun b _ o e=>old b o e,fun b hb=>(f3 b hb).1,w0'⟩
  rintro n s5 ⟨i,σ5,H5,I5,st5,fr5,w5⟩
  show TurnMeets _ _ _ _ _ _ _ _ _ _ _ _
  unfold TurnMeets
  rcases turn' i n σ5 H5 w5 with ⟨stop,qn⟩ | ⟨go,step⟩
  ·refine wpAny_mono (T.done (cxC X scope N' C s3 H3 fp) rfl rfl rfl hc i [] s5 σ5 H5 (fun _ _=>False) I5 (stat fr5) st5 stop) (fun r s6 ⟨hr,I6⟩=>?_) fun _ _ z=>z
   subst hr
   obtain ⟨mm,hmm,_⟩:=I6.loc
   obtain ⟨b1,b2⟩:=back I6
   exact ⟨p,H5,mm,rfl,hmm,b1,b2,qn⟩
  ·refine wpAny_mono (T.item (cxC X scope N' C s3 H3 fp) rfl rfl rfl hc i [] s5 σ5 H5 (fun _ _=>False) I5 (stat fr5) st5 go) (fun r s6 ⟨u,hr,h6⟩=>?_) fun _ _ z=>z
   subst hr
   refine wpAny_mono h6 (fun _ s7 ⟨x,H7,I7,r7,y7,st7,fr7⟩=>?_) fun _ _ z=>z
   have I7':=I7.pinned (stat fr7) (T.obj _ _ st7)
   refine wpAny_mono (hg C s3 H3 fp _ s7 σ5 H7 x u _ I7' r7 (step x H7 y7)) (fun _ s8 ⟨σ8,H8,I8,q8⟩=>?_) fun _ _ z=>z
   refine wpAny_mono (ht C s3 H3 fp _ s8 σ8 H8 _ I8 q8) (fun ok s9 ⟨H9,I9,q9⟩=>?_) fun _ _ z=>z
   have again:∀ {σa:L2.St}{Ha:Hp}{sa:Shared},Inv (cxC X scope N' C s3 H3 fp) ([]++pinsAt fp s7.heap) σa Ha sa->tn (i+1) sa.heap/\(∀ b∈fp,Ha b=none):=fun {σa Ha sa} Ia=>by
    refine ⟨T.keep _ _ _ st7 fun b hb o e=>(Ia.pin (b,o) (List.mem_append_right _ (List.mem_append_right _ (eO' hb e)))).1,fun b hb=>?_⟩
    obtain ⟨o,e,d⟩:=T.obj _ _ st7 b hb
    exact (Ia.pin (b,o) (List.mem_append_right _ (List.mem_append_right _ (eO' hb e)))).2.1
   cases ok with
   | false =>
    rw [if_neg Bool.false_ne_true] at q9
    obtain ⟨n',hn',w9⟩:=q9
    obtain ⟨a1,a2⟩:=again I9
    exact ⟨n',hn',i+1,σ8,H9,I9.unpinned,a1,a2,w9⟩
   | true =>
    rw [if_pos rfl] at q9
    refine wpAny_mono (he C s3 H3 fp _ s9 σ8 H9 _ I9 q9) (fun xv s10 ⟨y,H10,I10,r10,acc,hacc,hl,n',hn',w10⟩=>?_) fun _ _ z=>z
    refine wpAny_mono (jY' (X:=cxC X scope N' C s3 H3 fp) _ s10 σ8 H10 (.ref p) [y] (.ref p) [xv] (fun _ H'=>H'=upd H10 p (.lst (acc++[y]))) I10 rfl (.cons r10 .nil) ⟨p,acc,y,rfl,rfl,hacc,hl,rfl⟩) (fun _ s11 ⟨v11,H11,I11,_,e11⟩=>?_) fun _ _ z=>z
    subst e11
    obtain ⟨a1,a2⟩:=again I11
    exact ⟨n',hn',i+1,σ8,_,I11.unpinned,a1,a2,w10⟩
 subst hC
 subst hS3
 subst hP
 refine codeAny_compStart_list ?_ (T.self X.A 0 _ _ _ (T.keep _ _ _ st3 fun b _ o e=>old b o e) ?_)
 ·exact loop _ rfl
 ·exact loop _ rfl
end
end DL
namespace DL
open PySem PySem.Spec PyProof.Rows L2
section
variable {X:Cx}{tg elt iter:Expr}{ifs:List Expr}{scope:Scope}{pos:Pos}{N':List Str}{m:Nat}{g:TG}{tt:TT}{te:TE}{wi:TI}
def tComp (m:Nat) (wi:TI) (g:TG) (tt:TT) (te:TE):TE:=fun σ H Q=>wi σ H fun J H1=>∀ p,H1 p=none->CompW m J g tt te σ H1 p Q
theorem rU' (S:CompScope X.env.scope scope X.N N' m) (hc:X.calm=true) (hi:PI X tg iter wi)
  (hg:∀ C s H ex,PG (cxC X scope N' C s H ex) tg g) (ht:∀ C s H ex,PTs (cxC X scope N' C s H ex) ifs tt) (he:∀ C s H ex,PE (cxC X scope N' C s H ex) elt te)
  (hs:∀ x,foldedSetIterable iter X.env x=pure x:=by intro _;rfl):PE X (.ListComp elt [⟨tg,iter,ifs,0⟩] scope pos) (tComp m wi g tt te):=by
 intro pins s σ H Q I h
 rw [eval_ListComp]
 refine wpAny_comprehension_free (use:=none) rfl hs (f2' fun n hn=>I.ok.has n (S.free _ hn rfl)) S.kind S.locals (thn (hi pins s σ H _ I h) fun xv s1 h1=>thn h1 fun itv s2 h2=>?_)
 obtain ⟨it,fp,tn,J,H2,e,I2,T,st2,f2,hw⟩:=h2
 subst e
 refine thn (j5' (pos:=pos) (iter:=iter) S hc hg ht he I2 T st2 f2 hw) fun acc s3 h3=>thn h3 fun cenv s4 h4=>codeAny_mono h4 fun r s5 h5=>?_
 cases r with
 | error x=>exact h5.elim
 | ok fl =>
  obtain ⟨p,H5,mm,rfl,hn,I5,cl,q⟩:=h5
  exact ⟨mm,hn,fun h' hs'=>⟨.ref p,H5,Inv.clear I5 cl hs',rfl,q⟩⟩
theorem iJ' {i:Nat}{y:Str}{py spos:Pos} (S:CompScope X.env.scope scope X.N N' m) (hc:X.calm=true) (hN:X.N.Nodup) (hi':X.N[i]?=some y) (hy:X.env.scope.names.lookup y=some .local) (hi:PI X tg iter wi)
  (hg:∀ C s H ex,PG (cxC X scope N' C s H ex) tg g) (ht:∀ C s H ex,PTs (cxC X scope N' C s H ex) ifs tt) (he:∀ C s H ex,PE (cxC X scope N' C s H ex) elt te)
  (hsw:swapsWith (.ListComp elt [⟨tg,iter,ifs,0⟩] scope pos) (some (.Name y py)) spos.line X.env=pure true)
  (hs:∀ x,foldedSetIterable iter X.env x=pure x:=by intro _;rfl):PS X (.Assign [.Name y py] (.ListComp elt [⟨tg,iter,ifs,0⟩] scope pos) spos) (tAsg (tComp m wi g tt te) (gName i)):=by
 intro pins s σ H D I h
 rw [exec_Assign_Name_used _ _ _ _ hsw]
 refine wpAny_bind (wpAny_standAt (wpAny_bind ?_))
 show wpAny _ X.A (do let _ ← comprehension (.ListComp elt [⟨tg,iter,ifs,0⟩] scope pos) scope X.env _ (newList []) false (eval iter X.env) (some (assign (.Name y py) X.env))) _ _ s
 refine wpAny_bind (thn (wpAny_comprehension_free (use:=some (assign (.Name y py) X.env)) (Q:=fun _ s'=>SP X pins D .next s') rfl hs (f2' fun n hn=>I.ok.has n (S.free _ hn rfl)) S.kind S.locals
  (thn (hi pins s σ H _ I h) fun xv s1 h1=>thn h1 fun itv s2 h2=>?_)) fun _ s' hq=>wpAny_pure (wpAny_pure hq))
 obtain ⟨it,fp,tn,J,H2,e,I2,T,st2,f2,hw⟩:=h2
 subst e
 refine thn (j5' (pos:=pos) (iter:=iter) S hc hg ht he I2 T st2 f2 hw) fun acc s3 h3=>thn h3 fun cenv s4 h4=>codeAny_mono h4 fun r s5 h5=>?_
 cases r with
 | error x=>exact h5.elim
 | ok fl =>
  obtain ⟨p,H5,mm,rfl,hn,I5,cl,q⟩:=h5
  show wpAny _ X.A (assign (.Name y py) X.env (.ref p)) _ _ s5
  refine wpAny_assign_Name (jR' (v:=.ref p) I5 hN hi' (.inl hy) rfl (fun s6 I6 ⟨a,hs6,ha⟩=>?_) (.inr hy))
  have neC:cenv.locals≠a:=by
   rcases ha with rfl | ha
   ·exact cl.2.1
   ·exact fun z=>cl.2.2.2.1 y a ha z.symm
  refine ⟨mm,hn.sameBut hs6 neC,fun h' hs'=>?_⟩
  have cl6:Clear X pins H5 cenv.locals:=cl
  exact ⟨_,H5,Inv.clear I6 cl6 hs',q⟩
end
def inC {α:Type} (m:Nat) (g:M α):M α:=fun Γ=>match g (List.replicate m none++Γ) with
 | some (a,Γ')=>some (a,Γ'.drop m)
 | none=>none
def compM (tgt:D->M Unit) (ts:M Bool) (el:M D):List D->M (List D)
 | []=>ret []
 | d::ds=>bnd (tgt d) fun _=>bnd ts fun b=>if b then bnd el fun x=>bnd (compM tgt ts el ds) fun r=>ret (x::r) else compM tgt ts el ds
def compO (m:Nat) (it:M (List D)) (tgt:D->M Unit) (ts:M Bool) (el:M D):M (List D):=bnd it fun ds=>if ds.length<=lim then inC m (compM tgt ts el ds) else fun _=>none
def bUp (m:Nat) (B:BB):BB:=fun i=>if i < m then none else B (i - m)
theorem rV' {α:Type}{m:Nat}{g:M α}{Γ Γ':Gm}{a:α} (h:inC m g Γ=some (a,Γ')):∃ Γ1,g (List.replicate m none++Γ)=some (a,Γ1)/\Γ'=Γ1.drop m:=by
 unfold inC at h
 cases e:g (List.replicate m none++Γ) with
 | none=>rw [e] at h;cases h
 | some q=>obtain ⟨b,Γ1⟩:=q;rw [e] at h;cases h;exact ⟨Γ1,rfl,rfl⟩
section
variable {K:PySem.W.Frag}{B:BB}{G I H:Hp}{σ σ':L2.St}{Γ Γ':Gm}{m:Nat}
theorem f3' {α:Type}{l:List (Option α)}{m i:Nat}{a:α} (h:(List.replicate m (none:Option α)++l)[i]?=some (some a)):m<=i/\l[i - m]?=some (some a):=by
 by_cases hi:m<=i
 ·rw [List.getElem?_append_right (by rw [List.length_replicate];exact hi),List.length_replicate] at h
  exact ⟨hi,h⟩
 ·rw [List.getElem?_append_left (by rw [List.length_replicate];omega),List.getElem?_replicate] at h
  split at h<;>cases h
theorem rm' {α:Type}{l:List (Option α)}{m i:Nat} (hi:m<=i):(List.replicate m (none:Option α)++l)[i]?=l[i - m]?:=by
 rw [List.getElem?_append_right (by rw [List.length_replicate];exact hi),List.length_replicate]
theorem Rep.up (r:Rep K B G I H σ Γ) (m:Nat):Rep K (bUp m B) G I H (List.replicate m none++σ) (List.replicate m none++Γ) where
 iH:=r.iH
 gH:=r.gH
 len:=by rw [List.length_append,List.length_append,List.length_replicate,List.length_replicate,r.len]
 slot:=fun i q e=>by
  obtain ⟨hi,e1⟩:=f3' e
  obtain ⟨v,e2,e3⟩:=r.slot _ q e1
  exact ⟨v,by rw [rm' hi];exact e2,e3⟩
 dist:=fun i j q q' v e e' mm mm' s1 s2=>by
  obtain ⟨hi,e1⟩:=f3' e
  obtain ⟨hj,e2⟩:=f3' e'
  have:=r.dist _ _ q q' v e1 e2 mm mm' (f3' s1).2 (f3' s2).2
  omega
 bor:=fun i ds e=>by
  obtain ⟨hi,e1⟩:=f3' e
  rw [rm' hi,r.bor _ ds e1]
  unfold bUp
  rw [if_neg (by omega)]
theorem Rep.down (r:Rep K (bUp m B) G I H σ' Γ') (hs:σ'.drop m=σ):Rep K B G I H σ (Γ'.drop m):=by
 subst hs
 exact {
  iH:=r.iH,gH:=r.gH
  len:=by rw [List.length_drop,List.length_drop,r.len]
  slot:=fun i q e=>by
   rw [List.getElem?_drop] at e
   obtain ⟨v,e2,e3⟩:=r.slot _ q e
   exact ⟨v,by rw [List.getElem?_drop];exact e2,e3⟩
  dist:=fun i j q q' v e e' mm mm' s1 s2=>by
   rw [List.getElem?_drop] at e e' s1 s2
   have:=r.dist _ _ q q' v e e' mm mm' s1 s2
   omega
  bor:=fun i ds e=>by
   rw [List.getElem?_drop] at e ⊢
   rw [r.bor _ ds e]
   unfold bUp
   rw [if_neg (by omega)]
   congr 1
   omega }
theorem Rep.guard (r:Rep K B G I H σ Γ){p:Addr} (h:H p=none) (o:HO):Rep K B (upd G p o) I (upd H p o) σ Γ where
 iH:=r.iH.trans (aW' h o)
 gH:=j0' r.gH o
 len:=r.len
 slot:=fun i q e=>by
  obtain ⟨v,e1,e2⟩:=r.slot i q e
  refine ⟨v,e1,?_⟩
  have mt:∀ ds,Mt K G I H ds v->Mt K (upd G p o) I (upd H p o) ds v:=fun ds hh=>by
   obtain ⟨p2,xs,h1,h2,h3,h4,h5⟩:=hh
   have ne:p2≠p:=bq' h2 h
   exact ⟨p2,xs,h1,by rw [am' ne];exact h2,h3,by rw [am' ne];exact h4,h5⟩
  cases q with
  | val d=>exact e2
  | dic ds =>
   obtain ⟨p2,xs,h1,h2,h3,h4,h5⟩:=e2
   have ne:p2≠p:=bq' h2 h
   exact ⟨p2,xs,h1,by rw [am' ne];exact h2,h3,by rw [am' ne];exact h4,h5⟩
  | own ds=>exact mt ds e2
  | bor ds=>exact mt ds e2
  | fro ds =>
   obtain ⟨p2,xs,f1,f2,f3,f4⟩:=e2
   have ne:p2≠p:=bq' (r.iH _ _ f2) h
   exact ⟨p2,xs,f1,f2,by rw [am' ne];exact f3,f4⟩
 dist:=r.dist
 bor:=r.bor
theorem Rep.reguard {p:Addr}{o o':HO} (r:Rep K B (upd G p o) I H σ Γ) (hi:I p=none):Rep K B (upd G p o') I (upd H p o') σ Γ where
 iH:=fun b u q=>by
  have ne:b≠p:=fun z=>by subst z;rw [hi] at q;cases q
  rw [am' ne];exact r.iH b u q
 gH:=fun b u q=>by
  by_cases e:b=p
  ·subst e;rw [au'] at q ⊢;exact q
  ·rw [am' e] at q ⊢;exact r.gH b u (by rw [am' e];exact q)
 len:=r.len
 slot:=fun i q e=>by
  obtain ⟨v,e1,e2⟩:=r.slot i q e
  refine ⟨v,e1,?_⟩
  have mt:∀ ds,Mt K (upd G p o) I H ds v->Mt K (upd G p o') I (upd H p o') ds v:=fun ds hh=>by
   obtain ⟨p2,xs,h1,h2,h3,h4,h5⟩:=hh
   have ne:p2≠p:=fun z=>by subst z;rw [au'] at h4;cases h4
   rw [am' ne] at h4
   exact ⟨p2,xs,h1,by rw [am' ne];exact h2,h3,by rw [am' ne];exact h4,h5⟩
  cases q with
  | val d=>exact e2
  | dic ds =>
   obtain ⟨p2,xs,h1,h2,h3,h4,h5⟩:=e2
   have ne:p2≠p:=fun z=>by subst z;rw [au'] at h4;cases h4
   rw [am' ne] at h4
   exact ⟨p2,xs,h1,by rw [am' ne];exact h2,h3,by rw [am' ne];exact h4,h5⟩
  | own ds=>exact mt ds e2
  | bor ds=>exact mt ds e2
  | fro ds =>
   obtain ⟨p2,xs,f1,f2,f3,f4⟩:=e2
   have ne:p2≠p:=fun z=>by rw [z,hi] at f2;cases f2
   rw [am' ne] at f3
   exact ⟨p2,xs,f1,f2,by rw [am' ne];exact f3,f4⟩
 dist:=r.dist
 bor:=r.bor
theorem Rep.unguard {p:Addr}{o:HO} (r:Rep K B (upd G p o) I H σ Γ) (hg:G p=none):Rep K B G I H σ Γ/\Apart σ Γ p:=by
 have ap:Apart σ Γ p:=fun j q e mm s=>by
  obtain ⟨v,e1,e2⟩:=r.slot j q e
  obtain ⟨p2,xs,h1,h2,h3,h4⟩:=e2.mt mm
  rw [e1,h1] at s
  cases s
  rw [au'] at h4;cases h4
 refine ⟨{ iH:=r.iH,gH:=(aW' hg o).trans r.gH,len:=r.len,slot:=fun i q e=>?_,dist:=r.dist,bor:=r.bor },ap⟩
 obtain ⟨v,e1,e2⟩:=r.slot i q e
 refine ⟨v,e1,?_⟩
 have mt:∀ ds,Mt K (upd G p o) I H ds v->Mt K G I H ds v:=fun ds hh=>by
  obtain ⟨p2,xs,h1,h2,h3,h4,h5⟩:=hh
  have ne:p2≠p:=fun z=>by subst z;rw [au'] at h4;cases h4
  rw [am' ne] at h4
  exact ⟨p2,xs,h1,h2,h3,h4,h5⟩
 cases q with
 | val d=>exact e2
 | dic ds =>
  obtain ⟨p2,xs,h1,h2,h3,h4,h5⟩:=e2
  have ne:p2≠p:=fun z=>by subst z;rw [au'] at h4;cases h4
  rw [am' ne] at h4
  exact ⟨p2,xs,h1,h2,h3,h4,h5⟩
 | own ds=>exact mt ds e2
 | bor ds=>exact mt ds e2
 | fro ds =>
  obtain ⟨p2,xs,f1,f2,f3,f4⟩:=e2
  have ne:p2≠p:=fun z=>by rw [z,au'] at f3;cases f3
  rw [am' ne] at f3
  exact ⟨p2,xs,f1,f2,f3,f4⟩
theorem Grow.unguard {I':Hp}{p:Addr}{o:HO} (g:Grow (upd G p o) I I'):Grow G I I':=⟨g.up,fun b u q=>by
 rcases g.new b u q with z | z
 ·exact .inl z
 ·by_cases e:b=p
  ·subst e;rw [au'] at z;cases z
  ·rw [am' e] at z;exact .inr z⟩
theorem Grow.keepsOut {I':Hp}{p:Addr}{o:HO} (g:Grow (upd G p o) I I') (hi:I p=none):I' p=none:=by
 cases e:I' p with
 | none=>rfl
 | some u =>
  rcases g.new p u e with z | z
  ·rw [hi] at z;cases z
  ·rw [au'] at z;cases z
end
section
variable {X:Cx}{B:BB}{tg elt iter:Expr}{ifs:List Expr}{scope:Scope}{pos:Pos}{N':List Str}{m:Nat}{it:M (List D)}{tgt:D->M Unit}{ts:M Bool}{el:M D}
def TDs (X:Cx) (B:BB) (ifs:List Expr) (g:M Bool):Prop:=PTs X ifs (tTD X.K B g)
theorem bI':TDs X B [] (ret true):=fun pins s σ H Q I h=>rS' pins s σ H Q I (by
 obtain ⟨G,I,Γ,b,Γ',r,e1,k⟩:=h
 cases e1
 exact k _ _ r (Grow.refl _ _))
theorem cD' {c:Expr}{g:M Bool} (h:TD X B c g):TDs X B [c] g:=rT' h
theorem lb' {K:PySem.W.Frag}:∀ σ H Q,tO K B (compO m it tgt ts el) σ H Q->tComp m (tI K B it) (tGD K (bUp m B) m tgt) (tTD K (bUp m B) ts) (tD K (bUp m B) el) σ H Q:=fun σ H Q q=>by
 obtain ⟨G,I,Γ,rs,Γ',r,e1,k⟩:=q
 obtain ⟨ds,Γ1,e2,e3⟩:=ai' e1
 by_cases hlim:ds.length<=lim
 case neg=>rw [if_neg hlim] at e3;cases e3
 rw [if_pos hlim] at e3
 obtain ⟨Γe,e4,rfl⟩:=rV' e3
 refine ⟨G,I,Γ,ds,Γ1,r,e2,fun J H1 I1 r1 g1 y p hp=>?_⟩
 have gp:=r1.gFree hp
 have ip:=r1.iFree hp
 refine ⟨fun i n σ' H'=>∃ acc ad I2 Γ2 rest,Rep K (bUp m B) (upd G p (.lst acc)) I2 H' σ' Γ2/\Grow G I1 I2/\I2 p=none/\IsA K I2 ad acc/\σ'.drop m=σ/\compM tgt ts el (ds.drop i) Γ2=some (rest,Γe)/\ad++rest=rs/\ad.length<=i/\i<=ds.length/\n=ds.length - i,
  ⟨ds.length,[],[],I1,_,rs,(r1.up m).guard hp _,Grow.refl _ _,ip,IsA.nil,by rw [List.drop_append_of_le_length (by simp),List.drop_of_length_le (by simp),List.nil_append],by simpa using e4,rfl,Nat.zero_le _,Nat.zero_le _,rfl⟩,?_⟩
 rintro i n σ2 H2 ⟨acc,ad,I2,Γ2,rest,r2,g2,ip2,ha,hs,e5,rfl,hal,hi,rfl⟩
 obtain ⟨yg,ys⟩:=y i H2 (g2.up.trans r2.iH)
 by_cases hlt:i < ds.length
 ·have hd:ds.drop i=ds[i]::ds.drop (i+1):=List.drop_eq_getElem_cons hlt
  obtain ⟨go,yld⟩:=yg ds[i] (List.getElem?_eq_getElem hlt)
  rw [hd,compM] at e5
  obtain ⟨u,Γ3,e6,e7⟩:=ai' e5
  obtain ⟨b,Γ4,e8,e9⟩:=ai' e7
  refine .inr ⟨go,fun x H3 hy=>?_⟩
  have main:∀ I3,Rep K (bUp m B) (upd G p (.lst acc)) I3 H3 σ2 Γ2->Grow (upd G p (.lst acc)) I2 I3->Is K I3 ds[i] x->tGD K (bUp m B) m tgt x σ2 H3 fun σ2 H3=>tTD K (bUp m B) ts σ2 H3 fun b H4 =>
    if b=true then tD K (bUp m B) el σ2 H4 fun y H5=>∃ acc,H5 p=some (.lst acc)/\acc.length < sizeLine/\∃ n',n' < ds.length - i/\∃ acc_1 ad_1 I2 Γ2 rest_1,Rep K (bUp m B) (upd G p (.lst acc_1)) I2 (upd H5 p (.lst (acc++[y]))) σ2 Γ2/\Grow G I1 I2/\I2 p=none/\IsA K I2 ad_1 acc_1/\σ2.drop m=σ/\compM tgt ts el (ds.drop (i+1)) Γ2=some (rest_1,Γe)/\ad_1++rest_1=ad++rest/\ad_1.length<=i+1/\i+1<=ds.length/\n'=ds.length - (i+1)
    else ∃ n',n' < ds.length - i/\∃ acc ad_1 I2 Γ2 rest_1,Rep K (bUp m B) (upd G p (.lst acc)) I2 H4 σ2 Γ2/\Grow G I1 I2/\I2 p=none/\IsA K I2 ad_1 acc/\σ2.drop m=σ/\compM tgt ts el (ds.drop (i+1)) Γ2=some (rest_1,Γe)/\ad_1++rest_1=ad++rest/\ad_1.length<=i+1/\i+1<=ds.length/\n'=ds.length - (i+1):=by
   intro I3 r3 g3 hx
   refine ⟨_,I3,Γ2,ds[i],Γ3,r3,hx,e6,fun σ4 H4 I4 r4 g4 hs4=>⟨_,I4,Γ3,b,Γ4,r4,e8,fun H5 I5 r5 g5=>?_⟩⟩
   have g35:=g3.trans (g4.trans g5)
   have hs':σ4.drop m=σ:=hs4.trans hs
   cases b with
   | false =>
    refine iteF ⟨ds.length - (i+1),by omega,acc,ad,I5,Γ4,rest,r5,g2.trans g35.unguard,g35.keepsOut ip2,ha.mono g35.up,hs',by simpa using e9,rfl,by omega,hlt,rfl⟩
   | true =>
    simp only [if_true] at e9
    obtain ⟨xd,Γ5,f1,f2⟩:=ai' e9
    obtain ⟨rr,Γ6,f3,f4⟩:=ai' f2
    cases f4
    refine iteT ⟨_,I5,Γ4,xd,Γ5,r5,f1,fun yv H6 I6 r6 g6 hy6=>⟨acc,r6.gH _ _ au',?_,ds.length - (i+1),by omega,acc++[yv],ad++[xd],I6,Γ5,rr,?_⟩⟩
    ·rw [← ha.length]
     have h1:lim < sizeLine:=by rw [sizeLine_eq];decide
     omega
    ·have g36:=g35.trans g6
     have ip6:=g36.keepsOut ip2
     exact ⟨r6.reguard ip6,g2.trans g36.unguard,ip6,IsA.append (ha.mono g36.up) (IsA.cons hy6 IsA.nil),hs',f3,by rw [List.append_assoc];rfl,by rw [List.length_append,List.length_singleton];omega,hlt,rfl⟩
  rcases yld x H3 hy with ⟨rfl,hx⟩ | ⟨p2,es,xs,hd2,rfl,hp2,rfl,hx⟩
  ·exact main I2 r2 (Grow.refl _ _) (hx.mono g2.up)
  ·refine main _ (r2.alloc hp2 _) (r2.growAlloc hp2 _) ?_
   rw [hd2]
   exact Is.tup (SqT.of au') ((hx.mono g2.up).mono (aW' (r2.iFree hp2) _))
 ·have hi2:i=ds.length:=by omega
  subst hi2
  rw [List.drop_length] at e5
  cases e5
  rw [List.append_nil] at k
  refine .inl ⟨ys (Nat.le_refl _),?_⟩
  have rd:=Rep.down r2 hs
  obtain ⟨ru,ap⟩:=rd.unguard gp
  exact k p acc H2 I2 ru (g1.trans g2) (r2.gH _ _ au') ip2 gp ap ha
theorem bn' (S:CompScope X.env.scope scope X.N N' m) (hc:X.calm=true) (hi:ITD X B tg iter it)
  (hg:∀ C s H ex,GD (cxC X scope N' C s H ex) (bUp m B) m tg tgt) (ht:∀ C s H ex,TDs (cxC X scope N' C s H ex) (bUp m B) ifs ts) (he:∀ C s H ex,ED (cxC X scope N' C s H ex) (bUp m B) elt el)
  (hs:∀ x,foldedSetIterable iter X.env x=pure x:=by intro _;rfl):EO X B (.ListComp elt [⟨tg,iter,ifs,0⟩] scope pos) (compO m it tgt ts el):=PE.imp (rU' (g:=tGD X.K (bUp m B) m tgt) (tt:=tTD X.K (bUp m B) ts) (te:=tD X.K (bUp m B) el) S hc hi hg ht he hs) lb'
theorem b6' {i:Nat}{y:Str}{py spos:Pos} (S:CompScope X.env.scope scope X.N N' m) (hc:X.calm=true) (hN:X.N.Nodup) (hi:ITD X B tg iter it)
  (hg:∀ C s H ex,GD (cxC X scope N' C s H ex) (bUp m B) m tg tgt) (ht:∀ C s H ex,TDs (cxC X scope N' C s H ex) (bUp m B) ifs ts) (he:∀ C s H ex,ED (cxC X scope N' C s H ex) (bUp m B) elt el)
  (hi':X.N[i]?=some y:=by rfl) (hy:X.env.scope.names.lookup y=some .local:=by rfl) (hsw:swapsWith (.ListComp elt [⟨tg,iter,ifs,0⟩] scope pos) (some (.Name y py)) spos.line X.env=pure true:=by rfl)
  (hs:∀ x,foldedSetIterable iter X.env x=pure x:=by intro _;rfl):SD X B (.Assign [.Name y py] (.ListComp elt [⟨tg,iter,ifs,0⟩] scope pos) spos) (setV i (frz (compO m it tgt ts el))):=PS.imp (iJ' (g:=tGD X.K (bUp m B) m tgt) (tt:=tTD X.K (bUp m B) ts) (te:=tD X.K (bUp m B) el) S hc hN hi' hy hi hg ht he hsw hs) fun E σ H q=>by
 obtain ⟨G,I,Γ,f,Γ',r,e1,k⟩:=q
 obtain ⟨d1,Γ1,e2,e3⟩:=ai' e1
 obtain ⟨d2,Γ2,e4,e5⟩:=ai' e3
 cases e5
 obtain ⟨hl,rfl⟩:=ec' e4
 obtain ⟨ds,Γ3,e6,e7⟩:=ai' e2
 cases e7
 refine lb' σ H _ ⟨G,I,Γ,ds,_,r,e6,fun p xs H1 I1 r1 g1 h1 h2 h3 h4 h5=>?_⟩
 refine k _ H1 _ ((r1.freeze h1 h2 h4).store (by rw [r1.len];exact hl) (Is.lst (RdK.of au') (h5.mono (aW' h2 _))) (fun m=>nomatch m) (fun _ z=>nomatch z)) (g1.trans (growFreeze h2 h3))
end
end DL
namespace DL
open PySem PySem.Spec PyProof.Rows L2
mutual
def deq:D->D->Bool
 | .non,.non=>true
 | .bl a,.bl b=>a == b
 | .bl a,.int j=>(if a then (1:Int) else 0) == j
 | .int i,.bl b=>i == (if b then (1:Int) else 0)
 | .int i,.int j=>i == j
 | .str x,.str y=>x == y
 | .tup xs,.tup ys=>deqA xs ys
 | .lst xs,.lst ys=>deqA xs ys
 | _,_=>false
def deqA:List D->List D->Bool
 | [],[]=>true
 | x::xs,y::ys=>deq x y&&deqA xs ys
 | _,_=>false
end
mutual
def dep:D->Nat
 | .tup xs=>depA xs+1
 | .lst xs=>depA xs+1
 | _=>0
def depA:List D->Nat
 | []=>0
 | x::xs=>max (dep x) (depA xs)
end
mutual
theorem dI':∀ a:D,deq a a=true
 | .non=>by rw [deq]
 | .bl b=>by rw [deq];exact beq_self_eq_true b
 | .int b=>by rw [deq];exact beq_self_eq_true b
 | .str b=>by rw [deq];exact beq_self_eq_true b
 | .tup xs=>by rw [deq];exact ez' xs
 | .lst xs=>by rw [deq];exact ez' xs
theorem ez':∀ a:List D,deqA a a=true
 | []=>by rw [deqA]
 | x::xs=>by rw [deqA,dI' x,ez' xs];rfl
end
theorem cE':∀ {xs:List D}{x:D},x∈xs->dep x<=depA xs
 | y::ys,x,h=>by
  rw [depA]
  rcases List.mem_cons.mp h with rfl | h
  ·omega
  ·have:=cE' h;omega
theorem eQ':∀ (xs ys:List D),((List.range (min xs.length ys.length)).all (fun j=>deq (xs.getD j .non) (ys.getD j .non))&&(xs.length == ys.length))=deqA xs ys
 | [],[]=>by rw [deqA];rfl
 | [],y::ys=>by rw [deqA]<;>simp
 | x::xs,[]=>by rw [deqA]<;>simp
 | x::xs,y::ys=>by
  have ih:=eQ' xs ys
  have e:min (x::xs).length (y::ys).length=min xs.length ys.length+1:=by simp only [List.length_cons];omega
  rw [deqA,← ih,e,List.range_succ_eq_map,List.all_cons,List.all_map]
  have e2:((x::xs).length == (y::ys).length)=(xs.length == ys.length):=by
   simp only [List.length_cons]
   cases h:xs.length == ys.length
   ·simp at h ⊢;omega
   ·simp at h ⊢;omega
  rw [e2,Bool.and_assoc]
  rfl
theorem qB' {xs ys:List D} (h:xs.length≠ys.length):deqA xs ys=false:=by
 rw [← eQ']
 have:(xs.length == ys.length)=false:=by simpa using h
 rw [this,Bool.and_false]
section
variable {X:Cx}{pins:List (Addr×Obj)}{σ:L2.St}{H:Hp}{s:Shared}
theorem IsA.getU {K:PySem.W.Frag}{I:Hp}{ds:List D}{xs:List V}{us:List Value} (h:IsA K I ds xs) (r:Vals xs us){j:Nat} (hj:j < us.toArray.size):∃ v,RelV v us.toArray[j]/\Is K I (ds.getD j .non) v:=by
 have h1:=h.length
 have h2:=r.length
 have hj':j < us.length:=by simpa using hj
 have hd:ds[j]?=some ds[j]:=List.getElem?_eq_getElem (by omega)
 obtain ⟨v,e1,e2⟩:=h.get hd
 obtain ⟨u,e3,e4⟩:=r.get e1
 have e5:us.toArray[j]=u:=by
  rw [List.getElem?_eq_getElem hj'] at e3
  simpa using e3
 refine ⟨v,by rw [e5];exact e4,?_⟩
 rw [List.getD_eq_getElem?_getD,hd]
 exact e2
theorem rdL {a:Addr}{xs:List V}{K:PySem.W.Frag} (h:RdK K H a xs):SqL K H a xs:=h.sq
mutual
theorem gL' (I:Inv X pins σ H s):∀ {a b:D}{v:V},Is X.K H a v->Is X.K H b v->a=b
 | .non,b,v,h,h'=>by
  have e:=cS' h;subst e
  cases b<;>first | rfl | (rw [Is] at h';obtain ⟨_,_,e,_⟩:=h';cases e) | (rw [Is] at h';cases h')
 | .bl x,b,v,h,h'=>by
  have e:=cj' h;subst e
  cases b<;>first | (rw [Is] at h';obtain ⟨_,_,e,_⟩:=h';cases e) | (rw [Is] at h';cases h';rfl) | (rw [Is] at h';cases h')
 | .int x,b,v,h,h'=>by
  have e:=ar' h;subst e
  cases b<;>first | (rw [Is] at h';obtain ⟨_,_,e,_⟩:=h';cases e) | (rw [Is] at h';cases h';rfl) | (rw [Is] at h';cases h')
 | .str x,b,v,h,h'=>by
  have e:=cR' h;subst e
  cases b<;>first | (rw [Is] at h';obtain ⟨_,_,e,_⟩:=h';cases e) | (rw [Is] at h';cases h';rfl) | (rw [Is] at h';cases h')
 | .tup ds,b,v,h,h'=>by
  obtain ⟨p,xs,rfl,h1,h2⟩:=aD' h
  cases b with
  | tup es =>
   obtain ⟨p',xs',e,h3,h4⟩:=aD' h'
   cases e
   have:=I.tuple_inj h1 h3
   subst this
   rw [jj' I h2 h4]
  | lst es =>
   obtain ⟨p',xs',e,h3,h4⟩:=aJ' h'
   cases e
   obtain ⟨i1,_,t1,_⟩:=I.tuple h1
   obtain ⟨i2,_,t2,_⟩:=I.list (rdL h3)
   exact absurd rfl (PySem.SeqAt.ne_of_list_tuple t2.isList t1)
  | _=>rw [Is] at h';cases h'
 | .lst ds,b,v,h,h'=>by
  obtain ⟨p,xs,rfl,h1,h2⟩:=aJ' h
  cases b with
  | lst es =>
   obtain ⟨p',xs',e,h3,h4⟩:=aJ' h'
   cases e
   have:=I.list_inj (rdL h1) (rdL h3)
   subst this
   rw [jj' I h2 h4]
  | tup es =>
   obtain ⟨p',xs',e,h3,h4⟩:=aD' h'
   cases e
   obtain ⟨i1,_,t1,_⟩:=I.tuple h3
   obtain ⟨i2,_,t2,_⟩:=I.list (rdL h1)
   exact absurd rfl (PySem.SeqAt.ne_of_list_tuple t2.isList t1)
  | _=>rw [Is] at h';cases h'
theorem jj' (I:Inv X pins σ H s):∀ {a b:List D}{v:List V},IsA X.K H a v->IsA X.K H b v->a=b
 | [],b,v,h,h'=>by
  have e:=h.nil_inv;subst e
  cases b with
  | nil=>rfl
  | cons d r=>obtain ⟨_,_,e,_⟩:=h'.cons_inv;cases e
 | d::ds,b,v,h,h'=>by
  obtain ⟨x,r,rfl,h1,h2⟩:=h.cons_inv
  cases b with
  | nil=>have:=h'.nil_inv;cases this
  | cons e es =>
   obtain ⟨x',r',e',h3,h4⟩:=h'.cons_inv
   cases e'
   rw [gL' I h1 h3,jj' I h2 h4]
end
open PySem.SeqAt in
theorem o8' (I:Inv X pins σ H s){A:Around} (hu:A.units < cLine){a b:D}{x y:V}{u v:Value} (ha:Is X.K H a x) (hb:Is X.K H b y) (ru:RelV x u) (rv:RelV y v)
  (ht:∀ xs ys,a=.tup xs->b=.tup ys->RcAt A s u v (deq a b)/\EqAt A s u v (deq a b)/\RcNeAt A s u v (!deq a b))
  (hl:∀ xs ys,a=.lst xs->b=.lst ys->RcAt A s u v (deq a b)/\EqAt A s u v (deq a b)/\RcNeAt A s u v (!deq a b)):RcAt A s u v (deq a b)/\EqAt A s u v (deq a b)/\RcNeAt A s u v (!deq a b):=by
 cases a with
 | non =>
  have e:=cS' ha;subst e;cases ru
  cases b with
  | non=>have e:=cS' hb;subst e;cases rv;rw [deq];exact ⟨.none_none,.same _,.none_none⟩
  | bl j=>have e:=cj' hb;subst e;cases rv;rw [deq]<;>first | exact ⟨.none_bool _,.none_bool _,.none_bool _⟩ | (intros;contradiction)
  | int j=>have e:=ar' hb;subst e;obtain ⟨t,rfl⟩:=rv;rw [deq]<;>first | exact ⟨.none_int _ _,.none_int _ _,.none_int _ _⟩ | (intros;contradiction)
  | str j=>have e:=cR' hb;subst e;obtain ⟨t,rfl⟩:=rv;rw [deq]<;>first | exact ⟨.none_str _ _,.none_str _ _,.none_str _ _⟩ | (intros;contradiction)
  | tup j =>
   obtain ⟨p,xs,rfl,h1,h2⟩:=aD' hb;cases rv
   obtain ⟨its,_,t,_⟩:=I.tuple h1
   rw [deq]<;>first | exact ⟨.none_tuple t hu,.none_tuple t hu,.none_tuple t hu⟩ | (intros;contradiction)
  | lst j =>
   obtain ⟨p,xs,rfl,h1,h2⟩:=aJ' hb;cases rv
   obtain ⟨its,_,t,_⟩:=I.list (rdL h1)
   have t:=t.isList
   rw [deq]<;>first | exact ⟨.none_list t hu,.none_list t hu,.none_list t hu⟩ | (intros;contradiction)
 | bl i =>
  have e:=cj' ha;subst e;cases ru
  cases b with
  | non=>have e:=cS' hb;subst e;cases rv;rw [deq]<;>first | exact ⟨.bool_none _,.bool_none _,.bool_none _⟩ | (intros;contradiction)
  | bl j=>have e:=cj' hb;subst e;cases rv;rw [deq];exact ⟨.bool_bool _ _,.bool_bool _ _,.bool_bool _ _⟩
  | int j=>have e:=ar' hb;subst e;obtain ⟨t,rfl⟩:=rv;rw [deq];exact ⟨.bool_int _ _ _,.bool_int _ _ _,.bool_int _ _ _⟩
  | str j=>have e:=cR' hb;subst e;obtain ⟨t,rfl⟩:=rv;rw [deq]<;>first | exact ⟨.bool_str _ _ _,.bool_str _ _ _,.bool_str _ _ _⟩ | (intros;contradiction)
  | tup j =>
   obtain ⟨p,xs,rfl,h1,h2⟩:=aD' hb;cases rv
   obtain ⟨its,_,t,_⟩:=I.tuple h1
   rw [deq]<;>first | exact ⟨.bool_tuple _ t hu,.bool_tuple _ t hu,.bool_tuple _ t hu⟩ | (intros;contradiction)
  | lst j =>
   obtain ⟨p,xs,rfl,h1,h2⟩:=aJ' hb;cases rv
   obtain ⟨its,_,t,_⟩:=I.list (rdL h1)
   have t:=t.isList
   rw [deq]<;>first | exact ⟨.bool_list _ t hu,.bool_list _ t hu,.bool_list _ t hu⟩ | (intros;contradiction)
 | int i =>
  have e:=ar' ha;subst e;obtain ⟨t0,rfl⟩:=ru
  cases b with
  | non=>have e:=cS' hb;subst e;cases rv;rw [deq]<;>first | exact ⟨.int_none _ _,.int_none _ _,.int_none _ _⟩ | (intros;contradiction)
  | bl j=>have e:=cj' hb;subst e;cases rv;rw [deq];exact ⟨.int_bool _ _ _,.int_bool _ _ _,.int_bool _ _ _⟩
  | int j=>have e:=ar' hb;subst e;obtain ⟨t,rfl⟩:=rv;rw [deq];exact ⟨.int_int _ _ _ _,.int_int _ _ _ _,.int_int _ _ _ _⟩
  | str j=>have e:=cR' hb;subst e;obtain ⟨t,rfl⟩:=rv;rw [deq]<;>first | exact ⟨.int_str _ _ _ _,.int_str _ _ _ _,.int_str _ _ _ _⟩ | (intros;contradiction)
  | tup j =>
   obtain ⟨p,xs,rfl,h1,h2⟩:=aD' hb;cases rv
   obtain ⟨its,_,t,_⟩:=I.tuple h1
   rw [deq]<;>first | exact ⟨.int_tuple _ _ t hu,.int_tuple _ _ t hu,.int_tuple _ _ t hu⟩ | (intros;contradiction)
  | lst j =>
   obtain ⟨p,xs,rfl,h1,h2⟩:=aJ' hb;cases rv
   obtain ⟨its,_,t,_⟩:=I.list (rdL h1)
   have t:=t.isList
   rw [deq]<;>first | exact ⟨.int_list _ _ t hu,.int_list _ _ t hu,.int_list _ _ t hu⟩ | (intros;contradiction)
 | str i =>
  have e:=cR' ha;subst e;obtain ⟨t0,rfl⟩:=ru
  cases b with
  | non=>have e:=cS' hb;subst e;cases rv;rw [deq]<;>first | exact ⟨.str_none _ _,.str_none _ _,.str_none _ _⟩ | (intros;contradiction)
  | bl j=>have e:=cj' hb;subst e;cases rv;rw [deq]<;>first | exact ⟨.str_bool _ _ _,.str_bool _ _ _,.str_bool _ _ _⟩ | (intros;contradiction)
  | int j=>have e:=ar' hb;subst e;obtain ⟨t,rfl⟩:=rv;rw [deq]<;>first | exact ⟨.str_int _ _ _ _,.str_int _ _ _ _,.str_int _ _ _ _⟩ | (intros;contradiction)
  | str j=>have e:=cR' hb;subst e;obtain ⟨t,rfl⟩:=rv;rw [deq];exact ⟨.str_str _ _ _ _,.str_str _ _ _ _,.str_str _ _ _ _⟩
  | tup j =>
   obtain ⟨p,xs,rfl,h1,h2⟩:=aD' hb;cases rv
   obtain ⟨its,_,t,_⟩:=I.tuple h1
   rw [deq]<;>first | exact ⟨.str_tuple _ _ t hu,.str_tuple _ _ t hu,.str_tuple _ _ t hu⟩ | (intros;contradiction)
  | lst j =>
   obtain ⟨p,xs,rfl,h1,h2⟩:=aJ' hb;cases rv
   obtain ⟨its,_,t,_⟩:=I.list (rdL h1)
   have t:=t.isList
   rw [deq]<;>first | exact ⟨.str_list _ _ t hu,.str_list _ _ t hu,.str_list _ _ t hu⟩ | (intros;contradiction)
 | tup i =>
  obtain ⟨q,ys,rfl,g1,g2⟩:=aD' ha;cases ru
  obtain ⟨jts,_,t',_⟩:=I.tuple g1
  cases b with
  | non=>have e:=cS' hb;subst e;cases rv;rw [deq]<;>first | exact ⟨.tuple_none t' hu,.tuple_none t' hu,.tuple_none t' hu⟩ | (intros;contradiction)
  | bl j=>have e:=cj' hb;subst e;cases rv;rw [deq]<;>first | exact ⟨.tuple_bool _ t' hu,.tuple_bool _ t' hu,.tuple_bool _ t' hu⟩ | (intros;contradiction)
  | int j=>have e:=ar' hb;subst e;obtain ⟨t,rfl⟩:=rv;rw [deq]<;>first | exact ⟨.tuple_int _ _ t' hu,.tuple_int _ _ t' hu,.tuple_int _ _ t' hu⟩ | (intros;contradiction)
  | str j=>have e:=cR' hb;subst e;obtain ⟨t,rfl⟩:=rv;rw [deq]<;>first | exact ⟨.tuple_str _ _ t' hu,.tuple_str _ _ t' hu,.tuple_str _ _ t' hu⟩ | (intros;contradiction)
  | tup j=>exact ht _ _ rfl rfl
  | lst j =>
   obtain ⟨p,xs,rfl,h1,h2⟩:=aJ' hb;cases rv
   obtain ⟨its,_,t,_⟩:=I.list (rdL h1)
   have t:=t.isList
   rw [deq]<;>first | exact ⟨.tuple_list t' t hu,.tuple_list t' t hu,.tuple_list t' t hu⟩ | (intros;contradiction)
 | lst i =>
  obtain ⟨q,ys,rfl,g1,g2⟩:=aJ' ha;cases ru
  obtain ⟨jts,_,t',_⟩:=I.list (rdL g1)
  have t':=t'.isList
  cases b with
  | non=>have e:=cS' hb;subst e;cases rv;rw [deq]<;>first | exact ⟨.list_none t' hu,.list_none t' hu,.list_none t' hu⟩ | (intros;contradiction)
  | bl j=>have e:=cj' hb;subst e;cases rv;rw [deq]<;>first | exact ⟨.list_bool _ t' hu,.list_bool _ t' hu,.list_bool _ t' hu⟩ | (intros;contradiction)
  | int j=>have e:=ar' hb;subst e;obtain ⟨t,rfl⟩:=rv;rw [deq]<;>first | exact ⟨.list_int _ _ t' hu,.list_int _ _ t' hu,.list_int _ _ t' hu⟩ | (intros;contradiction)
  | str j=>have e:=cR' hb;subst e;obtain ⟨t,rfl⟩:=rv;rw [deq]<;>first | exact ⟨.list_str _ _ t' hu,.list_str _ _ t' hu,.list_str _ _ t' hu⟩ | (intros;contradiction)
  | lst j=>exact hl _ _ rfl rfl
  | tup j =>
   obtain ⟨p,xs,rfl,h1,h2⟩:=aD' hb;cases rv
   obtain ⟨its,_,t,_⟩:=I.tuple h1
   rw [deq]<;>first | exact ⟨.list_tuple t' t hu,.list_tuple t' t hu,.list_tuple t' t hu⟩ | (intros;contradiction)
open PySem.SeqAt in
theorem hH' (I:Inv X pins σ H s):∀ (n:Nat) (A:Around),A.units+n < cLine->∀ (a b:D) (x y:V) (u v:Value),dep a<=n\/dep b<=n->Is X.K H a x->Is X.K H b y->RelV x u->RelV y v->RcAt A s u v (deq a b)/\EqAt A s u v (deq a b)/\RcNeAt A s u v (!deq a b):=by
 intro n
 induction n with
 | zero =>
  intro A hu a b x y u v hd ha hb ru rv
  refine o8' I (by omega) ha hb ru rv (fun xs ys e1 e2=>?_) (fun xs ys e1 e2=>?_)<;>(subst e1;subst e2;rw [dep,dep] at hd;omega)
 | succ n ih =>
  intro A hu a b x y u v hd ha hb ru rv
  have hu1:A.in1.units+n < cLine:=by show A.units+1+n < cLine;omega
  refine o8' I (by omega) ha hb ru rv (fun ds es e1 e2=>?_) (fun ds es e1 e2=>?_)
  ·subst e1;subst e2
   obtain ⟨p,xs,rfl,h1,h2⟩:=aD' ha
   obtain ⟨q,ys,rfl,h3,h4⟩:=aD' hb
   cases ru;cases rv
   obtain ⟨its,r1,t1,_⟩:=I.tuple h1
   obtain ⟨jts,r2,t2,_⟩:=I.tuple h3
   have l1:its.toArray.size=ds.length:=by rw [List.size_toArray,← r1.length,h2.length]
   have l2:jts.toArray.size=es.length:=by rw [List.size_toArray,← r2.length,h4.length]
   have hk:∀ j (g1:j < its.toArray.size) (g2:j < jts.toArray.size),EqAt A.in1 s its.toArray[j] jts.toArray[j] (deq (ds.getD j .non) (es.getD j .non)):=fun j g1 g2=>by
    obtain ⟨v1,q1,q2⟩:=h2.getU r1 g1
    obtain ⟨v2,q3,q4⟩:=h4.getU r2 g2
    refine (ih A.in1 hu1 _ _ _ _ _ _ ?_ q2 q4 q1 q3).2.1
    have m1:ds.getD j .non∈ds:=by
     rw [List.getD_eq_getElem?_getD,List.getElem?_eq_getElem (by omega)]
     exact List.getElem_mem _
    have m2:es.getD j .non∈es:=by
     rw [List.getD_eq_getElem?_getD,List.getElem?_eq_getElem (by omega)]
     exact List.getElem_mem _
    have k1:=cE' m1
    have k2:=cE' m2
    rw [dep,dep] at hd
    omega
   have re:((List.range (min its.toArray.size jts.toArray.size)).all (fun j=>deq (ds.getD j .non) (es.getD j .non))&&its.toArray.size == jts.toArray.size)=deqA ds es:=by
    rw [l1,l2];exact eQ' ds es
   have R1:=RcAt.tuples (A:=A) t1 t2 (by omega) hk
   have R3:=RcNeAt.tuples (A:=A) t1 t2 (by omega) hk
   rw [re] at R1 R3
   have ed:deq (.tup ds) (.tup es)=deqA ds es:=by rw [deq]
   rw [ed]
   refine ⟨R1,?_,R3⟩
   by_cases hpq:p=q
   ·subst hpq
    have:=gL' I ha hb
    cases this
    rw [ez']
    exact .same _
   ·exact .of_refs hpq R1
  ·subst e1;subst e2
   obtain ⟨p,xs,rfl,h1,h2⟩:=aJ' ha
   obtain ⟨q,ys,rfl,h3,h4⟩:=aJ' hb
   cases ru;cases rv
   obtain ⟨its,r1,t1,_⟩:=I.list (rdL h1)
   obtain ⟨jts,r2,t2,_⟩:=I.list (rdL h3)
   have t1:=t1.isList
   have t2:=t2.isList
   have l1:its.toArray.size=ds.length:=by rw [List.size_toArray,← r1.length,h2.length]
   have l2:jts.toArray.size=es.length:=by rw [List.size_toArray,← r2.length,h4.length]
   have ed:deq (.lst ds) (.lst es)=deqA ds es:=by rw [deq]
   rw [ed]
   have fin:RcAt A s (.ref p) (.ref q) (deqA ds es)/\RcNeAt A s (.ref p) (.ref q) (!deqA ds es):=by
    by_cases hl:ds.length=es.length
    ·have hk:∀ j (g1:j < its.toArray.size) (g2:j < jts.toArray.size),EqAt A.in1 s its.toArray[j] jts.toArray[j] (deq (ds.getD j .non) (es.getD j .non)):=fun j g1 g2=>by
      obtain ⟨v1,q1,q2⟩:=h2.getU r1 g1
      obtain ⟨v2,q3,q4⟩:=h4.getU r2 g2
      refine (ih A.in1 hu1 _ _ _ _ _ _ ?_ q2 q4 q1 q3).2.1
      have m1:ds.getD j .non∈ds:=by
       rw [List.getD_eq_getElem?_getD,List.getElem?_eq_getElem (by omega)]
       exact List.getElem_mem _
      have m2:es.getD j .non∈es:=by
       rw [List.getD_eq_getElem?_getD,List.getElem?_eq_getElem (by omega)]
       exact List.getElem_mem _
      have k1:=cE' m1
      have k2:=cE' m2
      rw [dep,dep] at hd
      omega
     have re:(List.range its.toArray.size).all (fun j=>deq (ds.getD j .non) (es.getD j .non))=deqA ds es:=by
      rw [← eQ' ds es,l1,hl,Nat.min_self,beq_self_eq_true,Bool.and_true]
     have R1:=RcAt.lists (A:=A) t1 t2 (by omega) (by omega) hk
     have R3:=RcNeAt.lists (A:=A) t1 t2 (by omega) (by omega) hk
     rw [re] at R1 R3
     exact ⟨R1,R3⟩
    ·rw [qB' hl]
     have hne:(its.toArray.size != jts.toArray.size)=true:=by rw [l1,l2];simpa using hl
     exact ⟨.lists_lengths t1 t2 hne (by omega),.lists_lengths t1 t2 hne (by omega)⟩
   refine ⟨fin.1,?_,fin.2⟩
   by_cases hpq:p=q
   ·subst hpq
    have:=gL' I ha hb
    cases this
    rw [ez']
    exact .same _
   ·exact .of_refs hpq fin.1
def rEqD (K:PySem.W.Frag) (neg:Bool):R2:=fun x y H Q=>∃ a b,Is K H a x/\Is K H b y/\(dep a<=100\/dep b<=100)/\Q (.bl (if neg then !deq a b else deq a b)) H
theorem o9' (hu:X.A.units+100 < cLine):OpR X (compareOp .Eq) (rEqD X.K false):=by
 intro pins s σ H x y v u Q I rx ry h
 obtain ⟨a,b,h1,h2,h3,q⟩:=h
 exact (hH' I 100 X.A hu a b x y v u h3 h1 h2 rx ry).1 _ _ _ _ ⟨.bl (deq a b),H,I,rfl,q⟩
theorem lc' (hu:X.A.units+100 < cLine):OpR X (compareOp .NotEq) (rEqD X.K true):=by
 intro pins s σ H x y v u Q I rx ry h
 obtain ⟨a,b,h1,h2,h3,q⟩:=h
 exact (hH' I 100 X.A hu a b x y v u h3 h1 h2 rx ry).2.2 _ _ _ _ ⟨.bl (!deq a b),H,I,rfl,q⟩
def rInD (K:PySem.W.Frag) (neg:Bool):R2:=fun x y H Q=>∃ a ds,Is K H a x/\(Is K H (.lst ds) y\/Is K H (.tup ds) y)/\(dep a<=99)/\Q (.bl (if neg then !ds.any (fun d=>deq d a) else ds.any fun d=>deq d a)) H
theorem qC' {K:PySem.W.Frag}{ds:List D}{xs:List V}{us:List Value}{f:D->Bool}{e:Value->Bool} (h:IsA K H ds xs) (r:Vals xs us) (hf:∀ d v u,d∈ds->Is K H d v->RelV v u->e u=f d):us.any e=ds.any f:=by
 induction ds generalizing xs us with
 | nil=>have:=h.nil_inv;subst this;cases r;rfl
 | cons d ds ih =>
  obtain ⟨x,xr,rfl,h1,h2⟩:=h.cons_inv
  cases r with
  | cons r1 r2 =>
   rw [List.any_cons,List.any_cons,hf d _ _ List.mem_cons_self h1 r1,ih h2 r2 fun d v u hd=>hf d v u (List.mem_cons_of_mem _ hd)]
theorem nf' (hu:X.A.units+100 < cLine){neg:Bool}{pins:List (Addr×Obj)}{σ:L2.St}{H:Hp}{s:Shared}{x y:V}{v u:Value}{Q:VK} (I:Inv X pins σ H s) (rx:RelV x v) (ry:RelV y u) (h:rInD X.K neg x y H Q) :
  ∃ (its:Array Value) (e:Value->Bool) (l:Addr),u=.ref l/\(s.heap.IsList l its\/s.heap.IsTuple l its)/\(∀ z,z∈its->PySem.SeqAt.EqAt X.A.in1 s z v (e z))/\Q (.bl (if neg then !its.any e else its.any e)) H:=by
 obtain ⟨a,ds,h1,h2,h3,q⟩:=h
 have hu1:X.A.in1.units+99 < cLine:=by show X.A.units+1+99 < cLine;omega
 -- every item has its data: e reads it off
 have key:∀ (xs:List V) (its:List Value),IsA X.K H ds xs->Vals xs its->∃ e:Value->Bool,(∀ z,z∈its.toArray->PySem.SeqAt.EqAt X.A.in1 s z v (e z))/\its.toArray.any e=ds.any fun d=>deq d a:=by
  intro xs its ha r
  have ex:∀ z:Value,∃ b:Bool,∀ d w,d∈ds->Is X.K H d w->RelV w z->b=deq d a:=fun z=>by
   by_cases hz:∃ d w,d∈ds/\Is X.K H d w/\RelV w z
   ·obtain ⟨d,w,hd,hi,hr⟩:=hz
    refine ⟨deq d a,fun d' w' hd' hi' hr'=>?_⟩
    have:=RelV.inj hr hr'
    subst this
    rw [gL' I hi hi']
   ·exact ⟨false,fun d w hd hi hr=>absurd ⟨d,w,hd,hi,hr⟩ hz⟩
  refine ⟨fun z=>(ex z).choose,fun z hz=>?_,?_⟩
  ·have hz':z∈its:=by simpa using hz
   obtain ⟨j,hj,ej⟩:=List.mem_iff_getElem.mp hz'
   obtain ⟨w,q1,q2⟩:=ha.getU r (j:=j) (by simpa using hj)
   have q1':RelV w z:=by
    have:its.toArray[j]'(by simpa using hj)=z:=by simpa using ej
    rw [← this];exact q1
   have hm:ds.getD j .non∈ds:=by
    have l1:=ha.length
    have l2:=r.length
    rw [List.getD_eq_getElem?_getD,List.getElem?_eq_getElem (by omega)]
    exact List.getElem_mem _
   show PySem.SeqAt.EqAt X.A.in1 s z v (ex z).choose
   rw [(ex z).choose_spec _ w hm q2 q1']
   exact (hH' I 99 X.A.in1 hu1 _ a w x z v (.inr h3) q2 h1 q1' rx).2.1
  ·have:its.toArray.any (fun z=>(ex z).choose)=its.any (fun z=>(ex z).choose):=by simp
   rw [this]
   exact qC' ha r fun d w z hd hi hr=>(ex z).choose_spec d w hd hi hr
 rcases h2 with h2 | h2
 ·obtain ⟨l,xs,rfl,g1,g2⟩:=aJ' h2
  cases ry
  obtain ⟨its,r,t,_⟩:=I.list (rdL g1)
  obtain ⟨e,k1,k2⟩:=key xs its g2 r
  exact ⟨its.toArray,e,l,rfl,.inl t.isList,k1,by rw [k2];exact q⟩
 ·obtain ⟨l,xs,rfl,g1,g2⟩:=aD' h2
  cases ry
  obtain ⟨its,r,t,_⟩:=I.tuple g1
  obtain ⟨e,k1,k2⟩:=key xs its g2 r
  exact ⟨its.toArray,e,l,rfl,.inr t,k1,by rw [k2];exact q⟩
theorem tg' (hu:X.A.units+100 < cLine):OpR X (compareOp .In) (rInD X.K false):=by
 intro pins s σ H x y v u Q I rx ry h
 obtain ⟨its,e,l,rfl,hl,he,q⟩:=nf' hu I rx ry h
 rcases hl with hl | hl
 ·exact PySem.SeqAt.in_listAt e hl he ⟨.bl (its.any e),H,I,rfl,q⟩
 ·exact PySem.SeqAt.in_tupleAt e hl he ⟨.bl (its.any e),H,I,rfl,q⟩
theorem jk' (hu:X.A.units+100 < cLine):OpR X (compareOp .NotIn) (rInD X.K true):=by
 intro pins s σ H x y v u Q I rx ry h
 obtain ⟨its,e,l,rfl,hl,he,q⟩:=nf' hu I rx ry h
 rcases hl with hl | hl
 ·exact PySem.SeqAt.notIn_listAt e hl he ⟨.bl (!its.any e),H,I,rfl,q⟩
 ·exact PySem.SeqAt.notIn_tupleAt e hl he ⟨.bl (!its.any e),H,I,rfl,q⟩
end
end DL
set_option exponentiation.threshold 2000
namespace DL
open PySem PySem.Spec PyProof.Rows L2
def intF (C:Int->Int->Bool) (g:Int->Int->D) (a b:D):Option D:=match a,b with
 | .int i,.int j=>if C i j then some (g i j) else none
 | _,_=>none
theorem ij' {C:Int->Int->Bool}{g:Int->Int->D}{a b d:D} (h:intF C g a b=some d):∃ i j,a=.int i/\b=.int j/\C i j=true/\d=g i j:=by
 unfold intF at h
 split at h
 ·obtain ⟨h1,h2⟩:=aQ' h
  exact ⟨_,_,rfl,rfl,h1,h2⟩
 ·cases h
def tt2 (_ _:Int):Bool:=true
theorem od_I {K:PySem.W.Frag}{C:Int->Int->Prop}{c:Int->Int->Bool}{g:Int->Int->Int} (hc:∀ i j,c i j=true->C i j):OpD K (rI C fun i j=>.int (g i j)) (intF c fun i j=>.int (g i j)):=fun a b d e B G I H σ Γ x y Q r hx hy k=>by
 obtain ⟨i,j,rfl,rfl,h,rfl⟩:=ij' e
 exact ⟨i,j,ar' hx,ar' hy,hc i j h,k.now r (Is.int _)⟩
theorem uc' {K:PySem.W.Frag}{g:Int->Int->Int}:OpD K (rI0 fun i j=>.int (g i j)) (intF tt2 fun i j=>.int (g i j)):=fun a b d e B G I H σ Γ x y Q r hx hy k=>by
 obtain ⟨i,j,rfl,rfl,h,rfl⟩:=ij' e
 exact ⟨i,j,ar' hx,ar' hy,k.now r (Is.int _)⟩
theorem hI' {K:PySem.W.Frag}{g:Int->Int->Bool}:OpD K (rI0 fun i j=>.bl (g i j)) (intF tt2 fun i j=>.bl (g i j)):=fun a b d e B G I H σ Γ x y Q r hx hy k=>by
 obtain ⟨i,j,rfl,rfl,h,rfl⟩:=ij' e
 exact ⟨i,j,ar' hx,ar' hy,k.now r (Is.bl _)⟩
def subI:D->D->Option D:=intF tt2 fun i j=>.int (i - j)
def mulI:D->D->Option D:=intF (fun i j=>decide ((-(2 ^ 64) < i/\i < 2 ^ 64)\/(-(2 ^ 64) < j/\j < 2 ^ 64))) fun i j=>.int (i*j)
def modI:D->D->Option D:=intF (fun _ j=>decide (0 < j)) fun i j=>.int (i % j)
def divI:D->D->Option D:=intF (fun _ j=>decide (0 < j/\j < 2 ^ 200)) fun i j=>.int (i / j)
def powI:D->D->Option D:=intF (fun i j=>decide (0<=j/\j<=1000000/\i.natAbs < 2 ^ 64)) fun i j=>.int (i ^ j.toNat)
def ltI:D->D->Option D:=intF tt2 fun i j=>.bl (decide (i < j))
def leI:D->D->Option D:=intF tt2 fun i j=>.bl (decide (i<=j))
def gtI:D->D->Option D:=intF tt2 fun i j=>.bl (decide (j < i))
def geI:D->D->Option D:=intF tt2 fun i j=>.bl (decide (j<=i))
section
variable {X:Cx}{B:BB}{a b c e:Expr}{es:List Expr}{pos:Pos}{ga gb gc:M D}
theorem f4' (ha:ED X B a ga) (hb:ED X B b gb):ED X B (.BinOp a .Sub b pos) (op2 subI ga gb):=hE' sR' uc' ha hb
theorem cT' (ha:ED X B a ga) (hb:ED X B b gb):ED X B (.BinOp a .Mult b pos) (op2 mulI ga gb):=hE' sS' (od_I (C:=CMul) fun i j h=>(of_decide_eq_true h:_\/_)) ha hb
theorem dr' (ha:ED X B a ga) (hb:ED X B b gb):ED X B (.BinOp a .Mod b pos) (op2 modI ga gb):=hE' sT' (od_I fun i j h=>of_decide_eq_true h) ha hb
theorem ld' (ha:ED X B a ga) (hb:ED X B b gb):ED X B (.BinOp a .Pow b pos) (op2 powI ga gb):=hE' sU' (od_I (C:=CPow) fun i j h=>(of_decide_eq_true h:_/\_/\_)) ha hb
def CDivW (i j:Int):Prop:=0 < j/\j < 2 ^ 200
theorem qD':OpR X (binaryOp .FloorDiv) (rI CDivW fun i j=>.int (i / j)):=opI fun i j _ _ _ _ _ hc q=>by
 have h1:(0:Int) < j:=hc.1
 have h2:j.natAbs < 2 ^ 200:=by
  have:=hc.2
  omega
 have h4:j.natAbs.log2 < 9000:=by
  have h5:j.natAbs.log2 < 200:=(Nat.log2_lt (by omega)).mpr h2
  omega
 refine floordiv_int (by omega) ?_ (.inl (PyProof.noPylong_of_log2 h4))
 rw [Int.fdiv_eq_ediv_of_nonneg _ (Int.le_of_lt h1)]
 exact q
theorem th' (ha:ED X B a ga) (hb:ED X B b gb):ED X B (.BinOp a .FloorDiv b pos) (op2 divI ga gb):=hE' qD' (od_I (C:=CDivW) fun i j h=>(of_decide_eq_true h:_/\_)) ha hb
theorem rn' (ha:ED X B a ga) (hb:ED X B b gb):ED X B (.Compare a [.LtE] [b] pos) (op2 leI ga gb):=gI' rk' hI' ha hb
theorem ge' (ha:ED X B a ga) (hb:ED X B b gb):TD X B (.Compare a [.Lt] [b] pos) (tst (op2 ltI ga gb)):=dW' rj' hI' ha hb
theorem n2' (ha:ED X B a ga) (hb:ED X B b gb):TD X B (.Compare a [.Gt] [b] pos) (tst (op2 gtI ga gb)):=dW' t2' hI' ha hb
theorem ud' (ha:ED X B a ga) (hb:ED X B b gb):TD X B (.Compare a [.GtE] [b] pos) (tst (op2 geI ga gb)):=dW' t3' hI' ha hb
theorem rW' (ha:ED X B a ga) (hb:ED X B b gb) (hc:ED X B c gc) (hm:lastMarks [.LtE,.Lt] [b,c]=false:=by with_unfolding_all rfl):TD X B (.Compare a [.LtE,.Lt] [b,c] pos) (tst (chn leI ltI ga gb gc)):=s5' rk' hI' rj' hI' ha hb hc hm
def eqF (neg:Bool) (a b:D):Option D:=if dep a<=100\/dep b<=100 then some (.bl (if neg then !deq a b else deq a b)) else none
theorem kX' {K:PySem.W.Frag}{neg:Bool}:OpD K (rEqD K neg) (eqF neg):=fun a b d e B G I H σ Γ x y Q r hx hy k=>by
 obtain ⟨h1,rfl⟩:=aQ' e
 exact ⟨a,b,hx.mono r.iH,hy.mono r.iH,h1,k.now r (Is.bl _)⟩
variable {kr:Nat}
theorem hu100 {A:Around}{k:Nat} (hr:Room k A):A.units+100 < cLine:=by have:=hr.un;omega
theorem iK' (hr:Room kr X.A) (ha:ED X B a ga) (hb:ED X B b gb):ED X B (.Compare a [.Eq] [b] pos) (op2 (eqF false) ga gb):=gI' (o9' (hu100 hr)) kX' ha hb
theorem ue' (hr:Room kr X.A) (ha:ED X B a ga) (hb:ED X B b gb):ED X B (.Compare a [.NotEq] [b] pos) (op2 (eqF true) ga gb):=gI' (lc' (hu100 hr)) kX' ha hb
theorem b7' (hr:Room kr X.A) (ha:ED X B a ga) (hb:ED X B b gb):TD X B (.Compare a [.Eq] [b] pos) (tst (op2 (eqF false) ga gb)):=dW' (o9' (hu100 hr)) kX' ha hb
theorem c6' (hr:Room kr X.A) (ha:ED X B a ga) (hb:ED X B b gb):TD X B (.Compare a [.NotEq] [b] pos) (tst (op2 (eqF true) ga gb)):=dW' (lc' (hu100 hr)) kX' ha hb
def inF (neg:Bool) (a b:D):Option D:=match seqI b with
 | some ds=>if dep a<=99 then some (.bl (if neg then !ds.any (fun d=>deq d a) else ds.any fun d=>deq d a)) else none
 | none=>none
theorem n3' {K:PySem.W.Frag}{neg:Bool}:OpD K (rInD K neg) (inF neg):=fun a b d e B G I H σ Γ x y Q r hx hy k=>by
 unfold inF at e
 cases b with
 | lst ds =>
  obtain ⟨h1,rfl⟩:=aQ' e
  exact ⟨a,ds,hx.mono r.iH,.inl (hy.mono r.iH),h1,k.now r (Is.bl _)⟩
 | tup ds =>
  obtain ⟨h1,rfl⟩:=aQ' e
  exact ⟨a,ds,hx.mono r.iH,.inr (hy.mono r.iH),h1,k.now r (Is.bl _)⟩
 | _=>cases e
theorem ti' (hr:Room kr X.A) (ha:ED X B a ga) (hb:ED X B b gb) (hm:behindInMarks .NotIn b=false:=by rfl):ED X B (.Compare a [.NotIn] [b] pos) (op2 (inF true) ga gb):=gI' (jk' (hu100 hr)) n3' ha hb hm
theorem ro' (hr:Room kr X.A) (ha:ED X B a ga) (hb:ED X B b gb) (hm:behindInMarks .In b=false:=by rfl):TD X B (.Compare a [.In] [b] pos) (tst (op2 (inF false) ga gb)):=dW' (tg' (hu100 hr)) n3' ha hb hm
theorem tj' (hr:Room kr X.A) (ha:ED X B a ga) (hb:ED X B b gb) (hm:behindInMarks .NotIn b=false:=by rfl):TD X B (.Compare a [.NotIn] [b] pos) (tst (op2 (inF true) ga gb)):=dW' (jk' (hu100 hr)) n3' ha hb hm
def rCatTT (K:PySem.W.Frag):R2:=fun x y H Q=>∃ a b xs ys,x=.ref a/\y=.ref b/\SqT K H a xs/\SqT K H b ys/\xs.length+ys.length<=sizeLine ∧
 (xs=[]->Q (.ref b) H)/\(xs≠[]->ys=[]->Q (.ref a) H)/\(xs≠[]->ys≠[]->∀ p,H p=none->Q (.ref p) (upd H p (.tup (xs++ys))))
theorem qE':OpR X (binaryOp .Add) (rCatTT X.K):=by
 intro pins s σ H x y v u Q I rx ry h
 obtain ⟨a,b,xs,ys,rfl,rfl,ha,hb,hz,q0,q1,q2⟩:=h
 cases rx
 cases ry
 obtain ⟨its,r1,p1,_⟩:=I.tuple ha
 obtain ⟨its2,r2,p2,_⟩:=I.tuple hb
 by_cases hx:xs=[]
 ·subst hx
  cases r1
  obtain ⟨⟨cls,dd,data,sl⟩,ho,hc,n,hd⟩:=id p1
  obtain ⟨⟨cls2,dd2,data2,sl2⟩,ho2,hc2,n2,hd2⟩:=id p2
  simp only at hc hd hc2 hd2
  subst hc hd hc2 hd2
  exact concat_meets ⟨_,ho,rfl⟩ ⟨_,ho2,rfl⟩ noFill_tuple_add seq_tuple_add PySem.F.slot_tuple_add PySem.F.entry_tuple_add (PySem.F.args_tuple_add_2 _ _)
   (tuple_addW0 a b _ its2.toArray n n2 dd dd2 sl sl2 (by simp)) ⟨ho,ho2,⟨.ref b,H,I,rfl,q0 rfl⟩⟩
 ·exact rN' pins s σ H (.ref a) (.ref b) _ _ Q I rfl rfl ⟨a,b,xs,ys,rfl,rfl,ha,hb,hx,hz,q1 hx,q2 hx⟩
def addF (a b:D):Option D:=match a,b with
 | .int i,.int j=>some (.int (i+j))
 | .tup xs,.tup ys=>if xs.length+ys.length<=lim then some (.tup (xs++ys)) else none
 | .str x,.str y=>if x.length+y.length<=lim then some (.str (x++y)) else none
 | _,_=>none
theorem IsA.ne_nil {K:PySem.W.Frag}{I:Hp}{ds:List D}{xs:List V} (h:IsA K I ds xs):xs=[]↔ds=[]:=by
 have:=h.length
 constructor
 ·intro e;subst e;exact List.length_eq_zero_iff.mp this
 ·intro e;subst e;exact List.length_eq_zero_iff.mp this.symm
theorem aI' (ha:ED X B a ga) (hb:ED X B b gb):ED X B (.BinOp a .Add b pos) (op2 addF ga gb):=hE' ((sQ'.or qE').or nT') (fun a b d e B G I H σ Γ x y Q r hx hy k=>by
 unfold addF at e
 split at e
 ·cases e
  exact .inl (.inl ⟨_,_,ar' hx,ar' hy,k.now r (Is.int _)⟩)
 ·obtain ⟨hl,rfl⟩:=aQ' e
  obtain ⟨p,xs,rfl,h1,h2⟩:=aD' hx
  obtain ⟨q,ys,rfl,h3,h4⟩:=aD' hy
  refine .inl (.inr ⟨p,q,xs,ys,rfl,rfl,Same.sqT r.iH h1,Same.sqT r.iH h3,by rw [← h2.length,← h4.length];exact fb' hl,fun z=>?_,fun _ z=>?_,fun _ _ p' hp=>k.tup r hp (IsA.append h2 h4)⟩)
  ·have:=h2.ne_nil.mp z
   subst this
   exact k.now r (Is.tup h3 h4)
  ·have:=h4.ne_nil.mp z
   subst this
   rw [List.append_nil] at k
   exact k.now r (Is.tup h1 h2)
 ·obtain ⟨hl,rfl⟩:=aQ' e
  exact .inr ⟨_,_,cR' hx,cR' hy,fb' hl,k.now r (Is.str _)⟩
 ·cases e) ha hb
def rCatR (K:PySem.W.Frag):R2:=fun x y H Q=>∃ l b xs zs,x=.ref l/\y=.ref b/\RdK K H l xs/\RdK K H b zs/\xs.length+zs.length<=sizeLine/\∀ p,H p=none->Q (.ref p) (upd H p (.lst (xs++zs)))
theorem rX':OpR X (binaryOp .Add) (rCatR X.K):=by
 intro pins s σ H x y v u Q I rx ry h
 obtain ⟨l,b,xs,zs,rfl,rfl,hH,hB,hz,q⟩:=h
 cases rx
 cases ry
 obtain ⟨z,its,n,r,hl,e⟩:=jg' I hH
 obtain ⟨z2,its2,n2,r2,hl2,e2⟩:=jg' I hB
 refine PySem.P.add_list e e2 ?_ (by rw [List.size_toArray,List.size_toArray];omega)
 have ea:its.toArray++its2.toArray=(its++its2).toArray:=by simp
 rw [ea]
 exact ⟨.ref _,_,I.lnew (t':=s.toks) (r.append r2) (by rw [List.length_append];omega),rfl,q _ I.fresh⟩
def catF (a b:D):Option (List D):=match a,b with
 | .lst xs,.lst ys=>if xs.length+ys.length<=lim then some (xs++ys) else none
 | _,_=>none
theorem le' (ha:ED X B a ga) (hb:ED X B b gb):EO X B (.BinOp a .Add b pos) (op2 catF ga gb):=t6' rX' (fun a b d e B G I H σ Γ x y Q r hx hy k=>by
 unfold catF at e
 split at e
 ·obtain ⟨hl,rfl⟩:=aQ' e
  obtain ⟨p,xs,rfl,h1,h2⟩:=aJ' hx
  obtain ⟨q,ys,rfl,h3,h4⟩:=aJ' hy
  exact ⟨p,q,xs,ys,rfl,rfl,Same.rdK r.iH h1,Same.rdK r.iH h3,by rw [← h2.length,← h4.length];exact fb' hl,fun p' hp=>k.new r hp (IsA.append h2 h4)⟩
 ·cases e) ha hb
theorem IsA.at {K:PySem.W.Frag}{I:Hp}{ds:List D}{xs:List V}{i:Int}{d:D} (h:IsA K I ds xs) (e:atI ds i=some d):∃ x,atI xs i=some x/\Is K I d x:=by
 unfold atI at e ⊢
 rw [← h.length]
 cases hj:ixN ds.length i with
 | none=>rw [hj] at e;cases e
 | some j =>
  rw [hj] at e
  exact h.get e
def ixF (a b:D):Option D:=match seqI a,asI b with
 | some ds,some i=>atI ds i
 | _,_=>none
theorem ng' {a b d:D} (h:ixF a b=some d):∃ ds i,(a=.lst ds\/a=.tup ds)/\b=.int i/\atI ds i=some d:=by
 unfold ixF at h
 cases a<;>cases b<;>simp [seqI,asI] at h
 ·exact ⟨_,_,.inr rfl,rfl,h⟩
 ·exact ⟨_,_,.inl rfl,rfl,h⟩
theorem an' (ha:ED X B a ga) (hb:ED X B b gb) (hs:PlainIx b:=by exact fun _ _=>rfl):ED X B (.Subscript a b pos) (op2 ixF ga gb):=t7' (nd'.or s2') (fun a b d e B G I H σ Γ x y Q r hx hy k=>by
 obtain ⟨ds,i,h1,rfl,h2⟩:=ng' e
 rcases h1 with rfl | rfl
 ·obtain ⟨p,xs,rfl,h3,h4⟩:=aJ' hx
  obtain ⟨v,e5,e6⟩:=h4.at h2
  exact .inl ⟨p,xs,i,v,rfl,ar' hy,(Same.rdK r.iH h3).sq,e5,k.now r e6⟩
 ·obtain ⟨p,xs,rfl,h3,h4⟩:=aD' hx
  obtain ⟨v,e5,e6⟩:=h4.at h2
  exact .inr ⟨p,xs,i,v,rfl,ar' hy,Same.sqT r.iH h3,e5,k.now r e6⟩) ha hb hs
def look (i:Nat):M D:=fun Γ=>match Γ[i]? with
 | some (some (.own ds))=>some (.lst ds,Γ)
 | some (some (.bor ds))=>some (.lst ds,Γ)
 | _=>none
theorem dJ' {K:PySem.W.Frag}{G I H:Hp}{σ:L2.St}{Γ Γ':Gm}{i:Nat}{d:D} (h:look i Γ=some (d,Γ')) (r:Rep K B G I H σ Γ):Γ'=Γ/\∃ p xs ds,d=.lst ds/\σ[i]?=some (some (.ref p))/\H p=some (.lst xs)/\IsA K I ds xs:=by
 unfold look at h
 cases e:Γ[i]? with
 | none=>rw [e] at h;cases h
 | some o =>
  cases o with
  | none=>rw [e] at h;cases h
  | some q =>
   rw [e] at h
   obtain ⟨v,h1,h2⟩:=r.slot i q e
   cases q with
   | val _=>cases h
   | own ds=>cases h;obtain ⟨p,xs,rfl,g1,_,_,g4⟩:=h2;exact ⟨rfl,p,xs,ds,rfl,h1,g1,g4⟩
   | fro ds=>cases h
   | dic ds=>cases h
   | bor ds=>cases h;obtain ⟨p,xs,rfl,g1,_,_,g4⟩:=h2;exact ⟨rfl,p,xs,ds,rfl,h1,g1,g4⟩
def atN (i:Nat) (g:M D):M D:=mutS i (bnd g fun n=>bnd (look i) fun l=>lft (ixF l n))
theorem cy' {i:Nat}{x:Str}{p1:Pos} (hv:PE X (.Name x p1) (tVar i)) (hb:ED X B b gb) (hs:PlainIx b:=by exact fun _ _=>rfl):ED X B (.Subscript (.Name x p1) b pos) (atN i gb):=PE.imp (rl' nd' hv hb hs) fun σ H Q q=>by
 obtain ⟨G,I,Γ,d,Γ',r,e1,k⟩:=q
 obtain ⟨hm,e1⟩:=ck' e1
 obtain ⟨n,Γ1,e2,e3⟩:=ai' e1
 obtain ⟨l,Γ2,e4,e5⟩:=ai' e3
 obtain ⟨e6,rfl⟩:=ay' e5
 obtain ⟨p,xs,h1,h2⟩:=bY' hm r
 refine ⟨_,h1,G,I,Γ,n,Γ1,r,e2,fun v H1 I1 r1 g1 hn=>?_⟩
 obtain ⟨rfl,p',xs',ds,rfl,f1,f2,f3⟩:=dJ' e4 r1
 have hp:p'=p:=by rw [h1] at f1;cases f1;rfl
 subst hp
 obtain ⟨ds',j,g2,rfl,g3⟩:=ng' e6
 rcases g2 with g2 | g2
 ·cases g2
  obtain ⟨y,e7,e8⟩:=f3.at g3
  exact ⟨p',xs',j,y,rfl,ar' hn,SqL.of f2,e7,(k.after g1).now r1 e8⟩
 ·cases g2
def lenF (ds:List D):Option D:=match ds with
 | [.lst xs]=>some (.int xs.length)
 | [.tup xs]=>some (.int xs.length)
 | _=>none
theorem qF' {ds:List D}{d:D} (h:lenF ds=some d):∃ xs,(ds=[.lst xs]\/ds=[.tup xs])/\d=.int xs.length:=by
 unfold lenF at h
 split at h
 ·cases h;exact ⟨_,.inl rfl,rfl⟩
 ·cases h;exact ⟨_,.inr rfl,rfl⟩
 ·cases h
theorem dt' {p:Pos}{t:M (List D)} (hg:Gl X "len") (hm:X.mg "len"=none) (ha:AD X B [e] t) (he:starEach [e] X.env=(false,eval e X.env)::starEach [] X.env:=by rfl) (hpl:(backTo pos (starEach [] X.env)).any (·.1)=false:=by rfl) :
  ED X B (.Call (.Name "len" p) [e] [] pos) (fn1 lenF t):=f1' gH' (fun ds d e B G I H σ Γ xs Q r h k=>by
 obtain ⟨ys,h1,rfl⟩:=qF' e
 rcases h1 with rfl | rfl
 ·obtain ⟨x,rfl,hx⟩:=h.one
  obtain ⟨q,zs,rfl,h3,h4⟩:=aJ' hx
  exact ⟨q,zs,rfl,.inl ((Same.rdK r.iH h3).sq),by rw [h4.length] at k;exact k.now r (Is.int _)⟩
 ·obtain ⟨x,rfl,hx⟩:=h.one
  obtain ⟨q,zs,rfl,h3,h4⟩:=aD' hx
  exact ⟨q,zs,rfl,.inr (Same.sqT r.iH h3),by rw [h4.length] at k;exact k.now r (Is.int _)⟩) hg hm PySem.boot_len ha (by decide) (by decide) he hpl
def lenN (i:Nat):M D:=bnd (look i) fun l=>lft (lenF [l])
theorem jl' {i:Nat}{x:Str}{p p1:Pos} (hg:Gl X "len") (hm:X.mg "len"=none) (hv:PE X (.Name x p1) (tVar i)) (he:starEach [.Name x p1] X.env=(false,eval (.Name x p1) X.env)::starEach [] X.env:=by rfl) (hpl:(backTo pos (starEach [] X.env)).any (·.1)=false:=by rfl) :
  ED X B (.Call (.Name "len" p) [.Name x p1] [] pos) (lenN i):=PE.imp (gc' gH' hg hm PySem.boot_len (c3' hv gG' he) (by decide) (by decide) he hpl) fun σ H Q q=>by
 obtain ⟨G,I,Γ,d,Γ',r,e1,k⟩:=q
 obtain ⟨l,Γ1,e2,e3⟩:=ai' e1
 obtain ⟨e4,rfl⟩:=ay' e3
 obtain ⟨rfl,q,xs,ds,rfl,f1,f2,f3⟩:=dJ' e2 r
 cases e4
 exact ⟨_,f1,q,xs,rfl,.inl (SqL.of f2),by rw [f3.length] at k;exact k.now r (Is.int _)⟩
def cmpN (neg:Bool) (i:Nat) (g:M D):M D:=mutS i (bnd g fun d=>bnd (look i) fun l=>lft (eqF neg l d))
theorem tl' {K:PySem.W.Frag}{neg:Bool}{i:Nat}:∀ σ H Q,tD K B (cmpN neg i gb) σ H Q->tOp (rEqD K neg) (tVar i) (tD K B gb) σ H Q:=fun σ H Q q=>by
 obtain ⟨G,I,Γ,d,Γ',r,e1,k⟩:=q
 obtain ⟨hm,e1⟩:=ck' e1
 obtain ⟨n,Γ1,e2,e3⟩:=ai' e1
 obtain ⟨l,Γ2,e4,e5⟩:=ai' e3
 obtain ⟨e6,rfl⟩:=ay' e5
 obtain ⟨p,xs,h1,h2⟩:=bY' hm r
 refine ⟨_,h1,G,I,Γ,n,Γ1,r,e2,fun v H1 I1 r1 g1 hn=>?_⟩
 obtain ⟨rfl,p',xs',ds,rfl,f1,f2,f3⟩:=dJ' e4 r1
 have hp:p'=p:=by rw [h1] at f1;cases f1;rfl
 subst hp
 obtain ⟨hd,rfl⟩:=aQ' e6
 exact ⟨.lst ds,n,Is.lst (RdK.of f2) (f3.mono r1.iH),hn.mono r1.iH,hd,(k.after g1).now r1 (Is.bl _)⟩
theorem lf' {i:Nat}{x:Str}{p1:Pos} (hr:Room kr X.A) (hv:PE X (.Name x p1) (tVar i)) (hb:ED X B b gb):TD X B (.Compare (.Name x p1) [.NotEq] [b] pos) (tst (cmpN true i gb)):=PT.imp (je' (lc' (hu100 hr)) hv hb (nomark _)) (iH' tl')
def partD (e:Option Expr) (X:Cx) (B:BB) (g:M (Option Int)):Prop:=PO X e (fun σ H Q=>∃ G I Γ o Γ',Rep X.K B G I H σ Γ/\g Γ=some (o,Γ')/\∀ H' I',Rep X.K B G I' H' σ Γ'->Grow G I I'->Q o H')
theorem ee':partD none X B (ret none):=fun pins s σ H Q I h=>rL' pins s σ H Q I (by
 obtain ⟨G,I,Γ,o,Γ',r,e1,k⟩:=h
 cases e1
 exact k _ _ r (Grow.refl _ _))
def prt (g:M D):M (Option Int):=bnd g fun d=>bnd (lft (asI d)) fun i=>ret (some i)
theorem c7' (ha:ED X B a ga):partD (some a) X B (prt ga):=fun pins s σ H Q I h=>rM' ha pins s σ H Q I (by
 obtain ⟨G,I,Γ,o,Γ',r,e1,k⟩:=h
 obtain ⟨d,Γ1,e2,e3⟩:=ai' e1
 obtain ⟨i,Γ2,e4,e5⟩:=ai' e3
 cases e5
 obtain ⟨e6,rfl⟩:=ay' e4
 have:=ne' e6
 subst this
 exact ⟨G,I,Γ,_,_,r,e2,fun v H1 I1 r1 g1 hv=>⟨i,ar' hv,k _ _ r1 g1⟩⟩)
def cutD (ds:List D) (lo hi:Option Int):List D:=(ds.drop (HT.sIx ds.length 0 lo)).take (HT.sIx ds.length ds.length hi - HT.sIx ds.length 0 lo)
theorem IsA.cut {K:PySem.W.Frag}{I:Hp}{ds:List D}{xs:List V} (h:IsA K I ds xs) (lo hi:Option Int):IsA K I (cutD ds lo hi) (cutV xs lo hi):=by
 unfold cutD cutV
 rw [← h.length]
 exact (h.drop _).take _
def slF (d:D) (lo hi:Option Int):Option D:=match d with
 | .lst ds=>some (.lst (cutD ds lo hi))
 | .tup ds=>if HT.sIx ds.length 0 lo=0/\HT.sIx ds.length ds.length hi=ds.length then none else some (.tup (cutD ds lo hi))
 | _=>none
def sl3 {α:Type} (F:D->Option Int->Option Int->Option α) (g:M D) (gl gh:M (Option Int)):M α:=bnd g fun d=>bnd gl fun l=>bnd gh fun h=>lft (F d l h)
theorem fx' {lo hi:Option Expr}{p2:Pos}{gl gh:M (Option Int)} (ha:ED X B a ga) (hl:partD lo X B gl) (hh:partD hi X B gh):ED X B (.Subscript a (.Slice lo hi none p2) pos) (sl3 slF ga gl gh):=PE.imp (qv' (rO'.or s0') ha hl hh) fun σ H Q q=>by
 obtain ⟨G,I,Γ,d,Γ',r,e1,k⟩:=q
 obtain ⟨c,Γ1,e2,e3⟩:=ai' e1
 obtain ⟨l,Γ2,e4,e5⟩:=ai' e3
 obtain ⟨h,Γ3,e6,e7⟩:=ai' e5
 obtain ⟨e8,rfl⟩:=ay' e7
 refine ⟨G,I,Γ,c,Γ1,r,e2,fun v H1 I1 r1 g1 hv=>⟨G,I1,Γ1,l,Γ2,r1,e4,fun H2 I2 r2 g2=>⟨G,I2,Γ2,h,_,r2,e6,fun H3 I3 r3 g3=>?_⟩⟩⟩
 have gg:=g1.trans (g2.trans g3)
 have hv3:=hv.mono (g2.trans g3).up
 cases c with
 | lst ds =>
  cases e8
  obtain ⟨p,xs,rfl,h3,h4⟩:=aJ' hv3
  refine .inl ⟨p,xs,rfl,(Same.rdK r3.iH h3).sq,fun p' hp=>?_⟩
  exact (k.after gg) _ _ _ (r3.alloc hp _) (r3.growAlloc hp _) (Is.lst (RdK.of au') ((h4.cut l h).mono (aW' (r3.iFree hp) _)))
 | tup ds =>
  unfold slF at e8
  by_cases hw:HT.sIx ds.length 0 l=0/\HT.sIx ds.length ds.length h=ds.length
  ·simp only [hw,and_self,if_true] at e8;cases e8
  ·simp only [if_neg hw] at e8;cases e8
   obtain ⟨p,xs,rfl,h3,h4⟩:=aD' hv3
   exact .inr ⟨p,xs,rfl,Same.sqT r3.iH h3,by rw [← h4.length];exact hw,fun p' hp=>(k.after gg).tup r3 hp (h4.cut l h)⟩
 | _=>cases e8
def minF (ds:List D):Option D:=match ds with
 | [.int i,.int j]=>some (.int (if j < i then j else i))
 | _=>none
def maxF (ds:List D):Option D:=match ds with
 | [.int i,.int j]=>some (.int (if j > i then j else i))
 | _=>none
theorem f5' {p:Pos}{t:M (List D)} (hc:X.calm=true) (hg:Gl X "min") (hm:X.mg "min"=none) (ha:AD X B (e::es) t) (he:starEach (e::es) X.env=(false,eval e X.env)::starEach es X.env:=by rfl) (hpl:(backTo pos (starEach es X.env)).any (·.1)=false:=by rfl) :
  ED X B (.Call (.Name "min" p) (e::es) [] pos) (fn1 minF t):=f1' (o0' hc) (fun ds d e B G I H σ Γ xs Q r h k=>by
 unfold minF at e
 split at e
 ·cases e
  obtain ⟨x,y,rfl,hx,hy⟩:=h.two
  exact ⟨_,_,by rw [ar' hx,ar' hy],k.now r (Is.int _)⟩
 ·cases e) hg hm boot_min ha (by decide) (by decide) he hpl
theorem gM' {p:Pos}{t:M (List D)} (hc:X.calm=true) (hg:Gl X "max") (hm:X.mg "max"=none) (ha:AD X B (e::es) t) (he:starEach (e::es) X.env=(false,eval e X.env)::starEach es X.env:=by rfl) (hpl:(backTo pos (starEach es X.env)).any (·.1)=false:=by rfl) :
  ED X B (.Call (.Name "max" p) (e::es) [] pos) (fn1 maxF t):=f1' (oZ' hc) (fun ds d e B G I H σ Γ xs Q r h k=>by
 unfold maxF at e
 split at e
 ·cases e
  obtain ⟨x,y,rfl,hx,hy⟩:=h.two
  exact ⟨_,_,by rw [ar' hx,ar' hy],k.now r (Is.int _)⟩
 ·cases e) hg hm boot_max ha (by decide) (by decide) he hpl
def tupF (ds:List D):Option D:=match ds with
 | [.lst xs]=>some (.tup xs)
 | [.tup xs]=>some (.tup xs)
 | _=>none
def lstF (ds:List D):Option (List D):=match ds with
 | [.lst xs]=>some xs
 | [.tup xs]=>some xs
 | _=>none
theorem ef' {p:Pos}{t:M (List D)} (hg:Gl X "tuple") (hm:X.mg "tuple"=none) (ha:AD X B [e] t) (he:starEach [e] X.env=(false,eval e X.env)::starEach [] X.env:=by rfl) (hpl:(backTo pos (starEach [] X.env)).any (·.1)=false:=by rfl) :
  ED X B (.Call (.Name "tuple" p) [e] [] pos) (fn1 tupF t):=s8' kz' (fun ds d e B G I H σ Γ xs Q r h k=>by
 unfold tupF at e
 split at e
 ·cases e
  obtain ⟨x,rfl,hx⟩:=h.one
  obtain ⟨q,zs,rfl,h3,h4⟩:=aJ' hx
  exact ⟨q,zs,rfl,.inl ⟨(Same.rdK r.iH h3).sq,fun p' hp=>k.tup r hp h4⟩⟩
 ·cases e
  obtain ⟨x,rfl,hx⟩:=h.one
  obtain ⟨q,zs,rfl,h3,h4⟩:=aD' hx
  exact ⟨q,zs,rfl,.inr ⟨Same.sqT r.iH h3,k.now r (Is.tup h3 h4)⟩⟩
 ·cases e) hg hm boot_tuple ha (by decide) (by decide) he hpl
theorem jm' {p:Pos}{t:M (List D)} (hg:Gl X "list") (hm:X.mg "list"=none) (ha:AD X B [e] t) (he:starEach [e] X.env=(false,eval e X.env)::starEach [] X.env:=by rfl) (hpl:(backTo pos (starEach [] X.env)).any (·.1)=false:=by rfl) :
  EO X B (.Call (.Name "list" p) [e] [] pos) (fn1 lstF t):=s9' k6' (fun ds d e B G I H σ Γ xs Q r h k=>by
 unfold lstF at e
 split at e
 ·cases e
  obtain ⟨x,rfl,hx⟩:=h.one
  obtain ⟨q,zs,rfl,h3,h4⟩:=aJ' hx
  exact ⟨q,zs,rfl,.inl ((Same.rdK r.iH h3).sq),fun p' hp=>k.new r hp h4⟩
 ·cases e
  obtain ⟨x,rfl,hx⟩:=h.one
  obtain ⟨q,zs,rfl,h3,h4⟩:=aD' hx
  exact ⟨q,zs,rfl,.inr (Same.sqT r.iH h3),fun p' hp=>k.new r hp h4⟩
 ·cases e) hg hm boot_list ha (by decide) (by decide) he hpl
def isN (d:D):Bool:=match d with
 | .non=>true
 | _=>false
def isNF (neg:Bool) (a b:D):Option D:=match b with
 | .non=>some (.bl (if neg then !isN a else isN a))
 | _=>none
theorem pa' {K:PySem.W.Frag}{I:Hp}{a:D}{x:V} (h:Is K I a x):decide (x=V.non)=isN a:=by
 cases a with
 | non=>rw [cS' h];rfl
 | bl _=>rw [cj' h];rfl
 | int _=>rw [ar' h];rfl
 | str _=>rw [cR' h];rfl
 | tup _=>obtain ⟨_,_,rfl,_⟩:=aD' h;rfl
 | lst _=>obtain ⟨_,_,rfl,_⟩:=aJ' h;rfl
theorem pb' {K:PySem.W.Frag}:OpD K (fun x y H Q=>y=.non/\Q (.bl (decide (x=.non))) H) (isNF false):=fun a b d e B G I H σ Γ x y Q r hx hy k=>by
 unfold isNF at e
 split at e
 ·cases e;exact ⟨cS' hy,by rw [pa' hx];exact k.now r (Is.bl _)⟩
 ·cases e
theorem rY' {K:PySem.W.Frag}:OpD K (fun x y H Q=>y=.non/\Q (.bl (!decide (x=.non))) H) (isNF true):=fun a b d e B G I H σ Γ x y Q r hx hy k=>by
 unfold isNF at e
 split at e
 ·cases e;exact ⟨cS' hy,by rw [pa' hx];exact k.now r (Is.bl _)⟩
 ·cases e
theorem pc' (ha:ED X B a ga) (hb:ED X B b gb):ED X B (.Compare a [.Is] [b] pos) (op2 (isNF false) ga gb):=gI' oY' pb' ha hb
theorem pd' (ha:ED X B a ga) (hb:ED X B b gb):TD X B (.Compare a [.Is] [b] pos) (tst (op2 (isNF false) ga gb)):=dW' oY' pb' ha hb
theorem rZ' (ha:ED X B a ga) (hb:ED X B b gb):TD X B (.Compare a [.IsNot] [b] pos) (tst (op2 (isNF true) ga gb)):=dW' rJ' rY' ha hb
end
end DL
namespace DL
open PySem PySem.Spec PyProof.Rows L2
structure Kd where
 it:Heap->Addr->Addr->Nat->Prop
 sq:Heap->Addr->Array Value->Prop
 nm:String
structure KdOk (k:Kd):Prop where
 itAt:∀ {h h':Heap}{i l:Addr}{n:Nat},k.it h i l n->(∀ o,h.get? i=some o->h'.get? i=some o)->k.it h' i l n
 sqAt:∀ {h h':Heap}{l:Addr}{xs:Array Value},k.sq h l xs->(∀ o,h.get? l=some o->h'.get? l=some o)->k.sq h' l xs
 itLt:∀ {h:Heap}{i l:Addr}{n:Nat},k.it h i l n->i < h.objs.size
 sqLt:∀ {h:Heap}{l:Addr}{xs:Array Value},k.sq h l xs->l < h.objs.size
 itObj:∀ {h:Heap}{i l:Addr}{n:Nat},k.it h i l n->∃ o,h.get? i=some o/\∀ v,o.data≠.cell v
 iter:∀ {prog:Program}{w:World}{A:Around}{E:Value->Shared->Prop}{s:Shared}{l:Addr}{xs:Array Value}{Q:Value->Shared->Prop},k.sq s.heap l xs →
  Q (.ref s.heap.objs.size) { s with heap:=s.heap.push { cls:=.type k.nm,data:=.fields #[.ref l,.int 0 0] } }->wpAny (model prog w) A (pyIter (.ref l)) Q E s
 new:∀ {h:Heap}{l:Addr},k.it (h.push { cls:=.type k.nm,data:=.fields #[.ref l,.int 0 0] }) h.objs.size l 0
 item:∀ {prog:Program}{w:World}{A:Around}{E:Value->Shared->Prop}{s:Shared}{i l:Addr}{n:Nat}{xs:Array Value}{x:Value}{Q:Value->Shared->Prop},k.it s.heap i l n->k.sq s.heap l xs->xs[n]?=some x →
  (∀ h',k.it h' i l (n+1)->Heap.SameBut i s.heap h'->Q x { s with heap:=h' })->wpAny (model prog w) A (Builtin.SmallTypes.nextOf (.ref i)) Q E s
 stop:∀ {prog:Program}{w:World}{A:Around}{E:Value->Shared->Prop}{s:Shared}{i l:Addr}{n:Nat}{xs:Array Value}{Q:Value->Shared->Prop},A.handled=none->k.it s.heap i l n->k.sq s.heap l xs->xs[n]?=none →
  (∀ h' e,Heap.ExtBut i s.heap h'->(∃ o,h'.get? e=some o/\o.cls=.type "StopIteration")->E (.ref e) { s with heap:=h' })->wpAny (model prog w) A (Builtin.SmallTypes.nextOf (.ref i)) Q E s
def kdL:Kd:=⟨fun h i l n=>h.IsListIter i l n,fun h l xs=>h.IsList l xs, "list_iterator"⟩
def kdT:Kd:=⟨fun h i l n=>h.IsTupleIter i l n,fun h l xs=>h.IsTuple l xs, "tuple_iterator"⟩
theorem pe':KdOk kdL where
 itAt:=fun h k=>h.at k
 sqAt:=fun h k=>h.at k
 itLt:=fun h=>by obtain ⟨_,e,_⟩:=h;exact Heap.lt_size e
 sqLt:=fun h=>by obtain ⟨_,e,_⟩:=h;exact Heap.lt_size e
 itObj:=fun h=>by obtain ⟨o,e,_,d⟩:=h;exact ⟨o,e,fun v z=>by rw [d] at z;cases z⟩
 iter:=fun h q=>wpAny_pyIter_list h q
 new:=⟨_,Heap.get?_push_size _ rfl,rfl,rfl⟩
 item:=fun h1 h2 h3 q=>wpAny_nextOf_list_item h1 h2 h3 q
 stop:=fun hh h1 h2 h3 q=>wpAny_nextOf_list_end hh h1 h2 h3 q
section
variable {prog:Program}{w:World}{A:Around}{E:Value->Shared->Prop}{s:Shared}
theorem qG' {α:Type}{Q:α->Shared->Prop} (hh:A.handled=none)
  (k:∀ (g:Heap) (x:Addr),(∀ b o,s.heap.get? b=some o->g.get? b=some o)->(∃ o,g.get? x=some o/\o.cls=.type "StopIteration")->E (.ref x) { s with heap:=g }) :
  wpAny (model prog w) A (Builtin.SmallTypes.stopIteration (α:=α)) Q E s:=by
 unfold Builtin.SmallTypes.stopIteration newExc newTuple
 refine wpAny_bind (wpAny_bind (wpAny_newObj_type (wpAny_bind (wpAny_of_eq (a:=Value.none) (by first | rfl | (simp only [firstArgMember];rfl)) (wpAny_newObj_type ?_ (by size_fits)))) (by size_fits)))
 unfold raiseNew
 refine wpAny_bind (wpAny_handled ?_)
 rw [hh]
 exact wpAny_bind (wpAny_pure (wpAny_throw (k _ _ (fun b o e=>Heap.get?_push_of_some _ (Heap.get?_push_of_some _ e)) ⟨_,Heap.get?_push_size _ rfl,rfl⟩)))
theorem lg' {at' tp:Addr}{i:Nat}{cells:Array Value}{Q:Value->Shared->Prop} (hi:s.heap.IsTupleIter at' tp i) (hT:s.heap.IsTuple tp cells)
  (one:∀ v,cells[i]?=some v->∀ g:Heap,g.IsTupleIter at' tp (i+1)->Heap.SameBut at' s.heap g->Q v { s with heap:=g })
  (non:cells[i]?=none->A.handled=none/\∀ (g:Heap) (x:Addr),Heap.ExtBut at' s.heap g->(∃ o,g.get? x=some o/\o.cls=.type "StopIteration")->E (.ref x) { s with heap:=g }) :
  wpAny (model prog w) A (Builtin.SmallTypes.nextOf (.ref at')) Q E s:=by
 have ty:=hi.typeIs
 obtain ⟨oi,gi,ci,di⟩:=hi
 obtain ⟨ot,gt,ct,nt,dt⟩:=hT
 unfold Builtin.SmallTypes.nextOf
 refine wpAny_bind (wpAny_callSpecial?_slot (name:=Str.ofString "__next__") ty F.slot_tuple_iterator_next (wpAny_call_entry F.slot_tuple_iterator_next ty F.entry_tuple_iterator_next ?_ (F.args_tuple_iterator_next_1 _)))
 refine wpAny_bind (wpAny_of_eq (a:=(Value.ref at',[])) rfl ?_)
 refine wpAny_bind (wpAny_field (i:=0) gi di (x:=.ref tp) rfl (wpAny_ite_split (fun no=>absurd no Bool.false_ne_true) fun _=>?_))
 refine wpAny_bind (wpAny_field (i:=1) gi di (x:=.int i 0) rfl (wpAny_bind (wpAny_seqItems gt dt ?_)))
 dsimp only
 rw [Int.toNat_natCast]
 cases hv:cells[i]? with
 | some v =>
  refine wpAny_bind (wpAny_setField gi di (by simp) (wpAny_pure ⟨v,rfl,wpAny_pure (one v hv _ ?_ (Heap.SameBut.update ..))⟩))
  have low:=Obj.data_mapFields di
  exact ⟨_,Heap.get?_update_self _ gi (Obj.isFreed_of_fields (low _)),(Obj.cls_mapFields ..).trans ci,by rw [low];simp [rawInt]⟩
 | none =>
  obtain ⟨hh,k⟩:=non hv
  refine wpAny_bind (wpAny_rule (wpAny_bind (wpAny_setField gi di (by simp) (qG' hh fun g x keep is=>k g x (fun b o ne e=>keep b o ((Heap.SameBut.update ..).extBut b o ne e)) is))))
end
theorem pf':KdOk kdT where
 itAt:=fun h k=>by obtain ⟨o,e,r⟩:=h;exact ⟨o,k o e,r⟩
 sqAt:=fun h k=>by obtain ⟨o,e,r⟩:=h;exact ⟨o,k o e,r⟩
 itLt:=fun h=>by obtain ⟨_,e,_⟩:=h;exact Heap.lt_size e
 sqLt:=fun h=>by obtain ⟨_,e,_⟩:=h;exact Heap.lt_size e
 itObj:=fun h=>by obtain ⟨o,e,_,d⟩:=h;exact ⟨o,e,fun v z=>by rw [d] at z;cases z⟩
 iter:=fun h q=>wpAny_pyIter_tuple h q
 new:=⟨_,Heap.get?_push_size _ rfl,rfl,rfl⟩
 item:=fun h1 h2 h3 q=>lg' h1 h2 (fun v e g=>by rw [h3] at e;cases e;exact q g) fun e=>by rw [h3] at e;cases e
 stop:=fun hh h1 h2 h3 q=>lg' h1 h2 (fun v e=>by rw [h3] at e;cases e) fun _=>⟨hh,q⟩
theorem lh' {X:Cx}{pins:List (Addr×Obj)}{σ:L2.St}{H:Hp}{s:Shared}{h':Heap}{t':Nat}{ch:List Addr}{T:Addr}{o:HO} (I:Inv X pins σ H s) (hch:∀ b∈ch,FpOk X pins H b) (k:∀ b u,b∉ch->s.heap.get? b=some u->h'.get? b=some u)
  (hT:s.heap.objs.size<=T) (new:ObjOk X.prog X.w (upd H T o) h' T o):Inv X pins σ (upd H T o) { s with heap:=h',toks:=t' }:=by
 have hf:=I.hok.fresh hT
 have ne:∀ {b u},H b=some u->b≠T:=fun {b u} e=>bq' e hf
 have nch:∀ {b u},H b=some u->b∉ch:=fun {b u} e z=>by have:=(hch b z).1;rw [e] at this;cases this
 refine I.step (g':=s.gens) (d':=s.drawn) (ch:=ch) (fun b hb=>⟨(hch b hb).2.2.2.1,(hch b hb).2.1,(hch b hb).2.2.2.2.1,(hch b hb).2.2.2.2.2⟩) (fun b u _ _ hc e _=>k b u hc e) (fun b u _ _ hc e _=>⟨u.slots,k b u hc e⟩) (fun b u hc e n=>?_)
  (fun b u hc e=>⟨u,k b u hc e⟩) (fun b xs e=>by rw [am' (ne e)];exact e) (fun b u v e=>by rw [am' (ne e)];exact e) (fun b ps e=>⟨#[],by rw [am' (ne e),e];simp⟩) (fun m hm=>?_) (fun b u e=>?_) I.bare
 ·have nb:b≠T:=fun z=>by have:=Heap.lt_size e;rw [z] at this;exact absurd (Nat.lt_of_lt_of_le this hT) (Nat.lt_irrefl _)
  rw [am' nb];exact n
 ·obtain ⟨ob,es,ep,ho,r⟩:=hm
  exact ⟨ob,es,ep,k _ ob (fun z=>(hch _ z).2.1 rfl) ho,r⟩
 ·by_cases hb:b=T
  ·subst hb;rw [au'] at e;cases e;exact new
  ·rw [am' hb] at e
   refine (I.hok b u e).stay (fun c v hc q=>k c v ?_ q) (fun c q=>by rw [am' (ne q)];exact q) fun c xs q=>by rw [am' (ne q)];exact q
   rcases hc with z | z
   ·rw [z];exact nch e
   ·exact nch z
theorem j6' {X:Cx}{pins:List (Addr×Obj)}{σ:L2.St}{H:Hp}{s:Shared}{h':Heap}{t':Nat}{ch:List Addr} (I:Inv X pins σ H s) (hch:∀ b∈ch,FpOk X pins H b) (k:∀ b u,b∉ch->s.heap.get? b=some u->h'.get? b=some u):Inv X pins σ H { s with heap:=h',toks:=t' }:=by
 have nch:∀ {b u},H b=some u->b∉ch:=fun {b u} e z=>by have:=(hch b z).1;rw [e] at this;cases this
 refine I.step (g':=s.gens) (d':=s.drawn) (ch:=ch) (fun b hb=>⟨(hch b hb).2.2.2.1,(hch b hb).2.1,(hch b hb).2.2.2.2.1,(hch b hb).2.2.2.2.2⟩) (fun b u _ _ hc e _=>k b u hc e) (fun b u _ _ hc e _=>⟨u.slots,k b u hc e⟩) (fun b u hc e n=>n)
  (fun b u hc e=>⟨u,k b u hc e⟩) (fun b xs e=>e) (fun b u v e=>e) (fun b ps e=>⟨#[],by rw [e];simp⟩) (fun m hm=>?_) (fun b u e=>?_) I.bare
 ·obtain ⟨ob,es,ep,ho,r⟩:=hm
  exact ⟨ob,es,ep,k _ ob (fun z=>(hch _ z).2.1 rfl) ho,r⟩
 ·refine (I.hok b u e).stay (fun c v hc q=>k c v ?_ q) (fun c q=>q) fun c xs q=>q
  rcases hc with z | z
  ·rw [z];exact nch e
  ·exact nch z
section
variable {prog:Program}{w:World}{A:Around}{E:Value->Shared->Prop}{s:Shared}{k:Kd}
theorem li' (ok:KdOk k){z ta to' p q u v:Addr}{m n:Nat}{xs ys:Array Value}{c0 c1:Value}{Q:PySem.Fin->Shared->Prop} (D:ZipApart z ta to' p q u v) (Z:IsZip s.heap z ta to' .none) (Ta:IsPair s.heap ta (.ref p) (.ref q))
  (To:IsPair s.heap to' c0 c1) (P:k.it s.heap p u m) (P':k.it s.heap q v n) (U:k.sq s.heap u xs) (U':k.sq s.heap v ys)
  (both:∀ x y,xs[m]?=some x->ys[n]?=some y->∀ g:Heap,g.objs.size=s.heap.objs.size+1/\IsPair g s.heap.objs.size x y->IsZip g z ta to' (rawInt s.heap.objs.size)->IsPair g to' x y->k.it g p u (m+1)/\k.it g q v (n+1) →
   (∀ c o,(c≠z/\c≠to'/\c≠p/\c≠q)->s.heap.get? c=some o->g.get? c=some o)->Q (.done (.ret (.ref s.heap.objs.size))) { s with heap:=g })
  (gone:(xs[m]?=none\/ys[n]?=none)->A.handled=none/\∀ (g:Heap) (x:Addr),(∀ c o,(c≠z/\c≠to'/\c≠p/\c≠q)->s.heap.get? c=some o->g.get? c=some o)->(∃ o,g.get? x=some o/\o.cls=.type "StopIteration")->E (.ref x) { s with heap:=g }) :
  wpAny (model prog w) A (Builtin.«zip.__next__» ⟨[.ref z],[]⟩) Q E s:=by
 refine wpAny_bind (wpAny_of_eq (a:=(Value.ref z,[])) rfl (wpAny_bind (wpAny_field (i:=2) Z rfl (x:=.bool false) rfl (wpAny_bind (wpAny_field (i:=3) Z rfl (x:=.ref ta) rfl (wpAny_bind (wpAny_seqItems Ta rfl ?_)))))))
 refine wpAny_bind (m:=Builtin.SmallTypes.ownedTupleIsFree (.ref z)) (wpAny_bind (wpAny_field (i:=0) Z rfl (x:=.none) rfl (wpAny_pure ?_)))
 rw [if_pos rfl]
 refine wpAny_bind (wpAny_rule (wpAny_bind (wpAny_field (i:=4) Z rfl (x:=.ref to') rfl (wpAny_bind (wpAny_setField_rec Z (by simp) fun g1 Z1 b1=>?_)))))
 replace Z1:IsZip g1 z ta to' .ellipsis:=Z1
 have off:∀ (g:Heap) (x:Addr),IsZip g z ta to' .ellipsis->(∃ o,g.get? x=some o/\o.cls=.type "StopIteration")->(∀ g':Heap,Heap.SameBut z g g'->(∃ o,g'.get? x=some o/\o.cls=.type "StopIteration")->E (.ref x) { s with heap:=g' }) →
   wpAny (model prog w) A (setField (.ref z) 0 .none) (fun _ s'=>E (.ref x) s') E { s with heap:=g }:=fun g x Zg is kk=>by
  obtain ⟨o,e1,e2⟩:=is
  refine wpAny_setField_rec Zg (by simp) fun g' _ b'=>kk g' b' ⟨o,b'.extBut _ _ (fun same=>?_) e1,e2⟩
  rw [same,Zg] at e1
  cases e1
  simp at e2
 have f1:∀ c o,c≠z->s.heap.get? c=some o->g1.get? c=some o:=fun c o ne e=>b1.extBut _ _ ne e
 refine wpAny_bind ?_
 rw [List.zipIdx_cons,List.zipIdx_cons,List.zipIdx_nil,List.forIn_cons]
 refine wpAny_bind (wpAny_bind (wpAny_onRaise (wpAny_bind (m:=Builtin.SmallTypes.nextOf (.ref p)) ?_)))
 have P1:=ok.itAt P fun o e=>f1 _ o D.i1z e
 have U1:=ok.sqAt U fun o e=>f1 _ o D.l1z e
 cases hx:xs[m]? with
 | none =>
  obtain ⟨hh,out⟩:=gone (.inl hx)
  exact ok.stop hh P1 U1 hx fun g2 x b2 is=>off g2 x (b2 _ _ D.i1z.symm Z1) is fun g' b' is'=>out g' x (fun c o ne e=>b'.extBut _ _ ne.1 (b2 _ _ ne.2.2.1 (f1 c o ne.1 e))) is'
 | some x =>
  refine ok.item P1 U1 hx fun g2 P2 b2=>wpAny_pure ?_
  have To2:IsPair g2 to' c0 c1:=b2.extBut _ _ D.TOi1 (f1 _ _ D.TOz To)
  refine wpAny_bind (wpAny_seqItems To2 rfl (wpAny_bind (wpAny_updateSeq_pair To2 fun g3 To3 b3=>wpAny_bind (wpAny_letGo (wpAny_pure ?_)))))
  replace To3:IsPair g3 to' x c1:=To3
  have f3:∀ c o,c≠to'->c≠p->g1.get? c=some o->g3.get? c=some o:=fun c o n1 n2 e=>b3.extBut _ _ n1 (b2.extBut _ _ n2 e)
  have Z3:IsZip g3 z ta to' .ellipsis:=f3 _ _ D.TOz.symm D.i1z.symm Z1
  dsimp only
  rw [List.forIn_cons]
  refine wpAny_bind (wpAny_bind (wpAny_onRaise (wpAny_bind (m:=Builtin.SmallTypes.nextOf (.ref q)) ?_)))
  have Q3:=ok.itAt P' fun o e=>f3 _ o D.TOi2.symm D.i12.symm (f1 _ o D.i2z e)
  have V3:=ok.sqAt U' fun o e=>f3 _ o D.l2TO D.l2i1 (f1 _ o D.l2z e)
  cases hy:ys[n]? with
  | none =>
   obtain ⟨hh,out⟩:=gone (.inr hy)
   exact ok.stop hh Q3 V3 hy fun g4 x b4 is=>off g4 x (b4 _ _ D.i2z.symm Z3) is fun g' b' is'=>out g' x (fun c o ne e=>b'.extBut _ _ ne.1 (b4 _ _ ne.2.2.2 (f3 c o ne.2.1 ne.2.2.1 (f1 c o ne.1 e)))) is'
  | some y =>
   refine ok.item Q3 V3 hy fun g4 Q4 b4=>wpAny_pure ?_
   have To4:IsPair g4 to' x c1:=b4.extBut _ _ D.TOi2 To3
   refine wpAny_bind (wpAny_seqItems To4 rfl (wpAny_bind (wpAny_updateSeq_pair To4 fun g5 To5 b5=>wpAny_bind (wpAny_letGo (wpAny_pure ?_)))))
   replace To5:IsPair g5 to' x y:=To5
   have f5:∀ c o,c≠to'->c≠q->g3.get? c=some o->g5.get? c=some o:=fun c o n1 n2 e=>b5.extBut _ _ n1 (b4.extBut _ _ n2 e)
   dsimp only
   rw [List.forIn_nil]
   refine wpAny_pure (wpAny_bind (wpAny_seqItems To5 rfl (wpAny_bind (wpAny_newTuple ?_))))
   have same:g5.objs.size=s.heap.objs.size:=b5.1.trans (b4.1.trans (b3.1.trans (b2.1.trans b1.1)))
   have Z5:IsZip g5 z ta to' .ellipsis:=f5 _ _ D.TOz.symm D.i2z.symm Z3
   have far:g5.objs.size≠z:=Nat.ne_of_gt (Heap.lt_size Z5)
   have Z6:IsZip (g5.push { cls:=.type "tuple", data:=.seq #[x,y] }) z ta to' .ellipsis:=Heap.get?_push_of_some _ Z5
   refine wpAny_bind (m:=Builtin.SmallTypes.ownedTupleHandOut (.ref z) (.ref g5.objs.size)) (wpAny_bind (wpAny_setField_rec Z6 (by simp) fun g7 Z7 b7=>?_))
   refine wpAny_setField_rec Z7 (by simp) fun g8 Z8 b8=>wpAny_pure ?_
   replace Z8:IsZip g8 z ta to' (rawInt g5.objs.size):=Z8
   have f8:∀ c o,c≠z->g5.get? c=some o->g8.get? c=some o:=fun c o ne e=>b8.extBut _ _ ne (b7.extBut _ _ ne (Heap.get?_push_of_some _ e))
   have T8:IsPair g8 g5.objs.size x y:=b8.extBut _ _ far (b7.extBut _ _ far (Heap.get?_push_size _ rfl))
   have size8:g8.objs.size=g5.objs.size+1:=b8.1.trans (b7.1.trans (Heap.size_push ..))
   show Q (.done (.ret (.ref g5.objs.size))) { s with heap:=g8 }
   rw [same] at Z8 T8 size8 ⊢
   exact both x y hx hy g8 ⟨size8,T8⟩ Z8 (f8 _ _ D.TOz To5) ⟨ok.itAt P2 fun o e=>f8 _ o D.i1z (f5 _ o D.TOi1.symm D.i12 (b3.extBut _ _ D.TOi1.symm e)),ok.itAt Q4 fun o e=>f8 _ o D.i2z (b5.extBut _ _ D.TOi2.symm e)⟩
    fun c o ne e=>f8 c o ne.1 (f5 c o ne.2.1 ne.2.2.2 (f3 c o ne.2.1 ne.2.2.1 (f1 c o ne.1 e)))
abbrev zk1 (k:Kd) (h:Heap) (l1:Addr):Heap:=h.push { cls:=.type k.nm,data:=.fields #[.ref l1,.int 0 0] }
abbrev zk2 (k:Kd) (h:Heap) (l1 l2:Addr):Heap:=(zk1 k h l1).push { cls:=.type k.nm,data:=.fields #[.ref l2,.int 0 0] }
abbrev zk3 (k:Kd) (h:Heap) (l1 l2:Addr):Heap:=(zk2 k h l1 l2).push { cls:=.type "tuple", data:=.seq #[.ref h.objs.size,.ref (zk1 k h l1).objs.size] }
abbrev zk4 (k:Kd) (h:Heap) (l1 l2:Addr):Heap:=(zk3 k h l1 l2).push { cls:=.type "tuple", data:=.seq #[.none,.none] }
abbrev zk5 (k:Kd) (h:Heap) (l1 l2:Addr):Heap:=(zk4 k h l1 l2).push { cls:=.type "zip", data:=.fields #[.none,.bool false,.bool false,.ref (zk2 k h l1 l2).objs.size,.ref (zk3 k h l1 l2).objs.size] }
theorem n4' (ok:KdOk k) (l1 l2:Addr) (xs ys:Array Value) :
  Meets (Builtin.«zip.__new__» ⟨[.type "zip", .ref l1,.ref l2],[]⟩) (fun _ R s=>k.sq s.heap l1 xs/\k.sq s.heap l2 ys ∧
   ∀ h',IsZip h' (s.heap.objs.size+4) (s.heap.objs.size+2) (s.heap.objs.size+3) .none->IsPair h' (s.heap.objs.size+2) (.ref s.heap.objs.size) (.ref (s.heap.objs.size+1)) →
    IsPair h' (s.heap.objs.size+3) .none .none->k.it h' s.heap.objs.size l1 0->k.it h' (s.heap.objs.size+1) l2 0->(∀ c o,s.heap.get? c=some o->h'.get? c=some o)->R (.ok (.ret (.ref (s.heap.objs.size+4)))) { s with heap:=h' }) :=
 .of_wp fun prog w A R s h=>by
  obtain ⟨hp,gn,dw,tk,os⟩:=s
  obtain ⟨hl1,hl2,h⟩:=h
  have hsub:=sub_zip
  have hL1:k.sq (Shared.heap ⟨hp,gn,dw,tk,os⟩) l1 xs:=hl1
  have hL2:k.sq (Shared.heap ⟨zk1 k hp l1,gn,dw,tk,os⟩) l2 ys:=ok.sqAt hl2 fun o e=>Heap.get?_push_of_some _ e
  wp_walk using ok.iter hL1,ok.iter hL2
  refine ⟨_,rfl,?_⟩
  have z1:(zk1 k hp l1).objs.size=hp.objs.size+1:=Heap.size_push ..
  have z2:(zk2 k hp l1 l2).objs.size=hp.objs.size+2:=by rw [Heap.size_push,z1]
  have z3:(zk3 k hp l1 l2).objs.size=hp.objs.size+3:=by rw [Heap.size_push,z2]
  have z4:(zk4 k hp l1 l2).objs.size=hp.objs.size+4:=by rw [Heap.size_push,z3]
  have g5:(zk5 k hp l1 l2).get? (zk4 k hp l1 l2).objs.size=some { cls:=.type "zip", data:=.fields #[.none,.bool false,.bool false,.ref (zk2 k hp l1 l2).objs.size,.ref (zk3 k hp l1 l2).objs.size] }:=Heap.get?_push_size _ rfl
  have g4:(zk5 k hp l1 l2).get? (zk3 k hp l1 l2).objs.size=some { cls:=.type "tuple", data:=.seq #[.none,.none] }:=Heap.get?_push_of_some _ (Heap.get?_push_size _ rfl)
  have g3:(zk5 k hp l1 l2).get? (zk2 k hp l1 l2).objs.size=some { cls:=.type "tuple", data:=.seq #[.ref hp.objs.size,.ref (zk1 k hp l1).objs.size] }:=Heap.get?_push_of_some _ (Heap.get?_push_of_some _ (Heap.get?_push_size _ rfl))
  have n2:k.it (zk2 k hp l1 l2) (zk1 k hp l1).objs.size l2 0:=ok.new
  have n1:k.it (zk1 k hp l1) hp.objs.size l1 0:=ok.new
  have i2:k.it (zk5 k hp l1 l2) (zk1 k hp l1).objs.size l2 0:=ok.itAt n2 fun o e=>Heap.get?_push_of_some _ (Heap.get?_push_of_some _ (Heap.get?_push_of_some _ e))
  have i1:k.it (zk5 k hp l1 l2) hp.objs.size l1 0:=ok.itAt n1 fun o e=>Heap.get?_push_of_some _ (Heap.get?_push_of_some _ (Heap.get?_push_of_some _ (Heap.get?_push_of_some _ e)))
  show R (.ok (.ret (.ref (zk4 k hp l1 l2).objs.size))) { heap:=zk5 k hp l1 l2,gens:=gn,drawn:=dw,toks:=tk,os:=os }
  rw [z2,z3,z4] at g5
  rw [z1,z2] at g3
  rw [z3] at g4
  rw [z1] at i2
  rw [z4]
  exact h (zk5 k hp l1 l2) g5 g3 g4 i1 i2 fun c o e=>Heap.get?_push_of_some _ (Heap.get?_push_of_some _ (Heap.get?_push_of_some _ (Heap.get?_push_of_some _ (Heap.get?_push_of_some _ e))))
theorem pg' (ok:KdOk k){l1 l2:Addr}{xs ys:Array Value}{Q:Value->Shared->Prop} (hl1:k.sq s.heap l1 xs) (hl2:k.sq s.heap l2 ys)
  (made:∀ n h',n=s.heap.objs.size->IsZip h' (n+4) (n+2) (n+3) .none->IsPair h' (n+2) (.ref n) (.ref (n+1))->IsPair h' (n+3) .none .none->k.it h' n l1 0->k.it h' (n+1) l2 0->(∀ c o,s.heap.get? c=some o->h'.get? c=some o)->Q (.ref (n+4)) { s with heap:=h' }) :
  wpAny (model prog w) A (call (Value.type "zip") ([l1,l2].map Value.ref)) Q E s :=
 callType_new F.called_zip (by decide) (F.typeCall_zip_2 _ _) (F.newCall_zip_2 _ _) (fun obj=>F.args_object_init_3 obj _ _) F.entry_zip_new (n4' ok l1 l2 xs ys) ⟨hl1,hl2,fun h' b1 b2 b3 b4 b5 b6=>⟨⟨_,b1,rfl⟩,made _ h' rfl b1 b2 b3 b4 b5 b6⟩⟩
end
section
variable {X:Cx}{k:Kd}
def Itz (rd:Hp->Addr->List V->Prop) (l1 l2:Addr):It :=
 ⟨fun i H=>∃ xs ys x y,rd H l1 xs/\rd H l2 ys/\xs[i]?=some x/\ys[i]?=some y,
  fun i H v H'=>∃ p x y,H p=none/\v=.ref p/\H'=upd H p (.tup [x,y])/\(∀ xs,rd H l1 xs->xs[i]?=some x)/\(∀ ys,rd H l2 ys->ys[i]?=some y),
  fun i H=>∃ xs ys,rd H l1 xs/\rd H l2 ys/\(xs.length<=i\/ys.length<=i)⟩
structure KdRd (K:PySem.W.Frag) (k:Kd) (rd:Hp->Addr->List V->Prop):Prop where
 of:∀ {X:Cx}{pins:List (Addr×Obj)}{σ:L2.St}{H:Hp}{s:Shared}{a:Addr}{xs:List V},X.K=K->Inv X pins σ H s->rd H a xs->∃ its:List Value,Vals xs its/\k.sq s.heap a its.toArray
 inj:∀ {X:Cx}{pins:List (Addr×Obj)}{σ:L2.St}{H:Hp}{s:Shared}{a:Addr}{xs ys:List V},X.K=K->Inv X pins σ H s->rd H a xs->rd H a ys->xs=ys
theorem rp' (K:PySem.W.Frag):KdRd K kdL (fun H a xs=>SqL K H a xs) where
 of:=fun e I h=>by subst e;obtain ⟨its,r,t,_⟩:=I.list h;exact ⟨its,r,t.isList⟩
 inj:=fun e I h h'=>by subst e;exact I.list_inj h h'
theorem rq' (K:PySem.W.Frag):KdRd K kdT (fun H a xs=>SqT K H a xs) where
 of:=fun e I h=>by subst e;obtain ⟨its,r,t,_⟩:=I.tuple h;exact ⟨its,r,t⟩
 inj:=fun e I h h'=>by subst e;exact I.tuple_inj h h'
theorem qH' {P:Program}{w:World}{K:PySem.W.Frag}{elts:List Expr}{x1:Nat}{tp:Pos}{rd:Hp->Addr->List V->Prop} (ok:KdOk k) (kr:KdRd K k rd){z TI TO i1 i2 l1 l2:Addr} (D:ZipApart z TI TO i1 i2 l1 l2) :
  Turn P w K (.Tuple elts x1 tp) (Itz rd l1 l2) [z,TI,TO,i1,i2] z (fun i h=>IsZip h z TI TO .none/\IsPair h TI (.ref i1) (.ref i2)/\(∃ a b,IsPair h TO a b)/\k.it h i1 l1 i/\k.it h i2 l2 i) where
 mem:=by simp
 obj:=fun i h st b hb=>by
  obtain ⟨a1,a2,⟨x,y,a3⟩,a4,a5⟩:=st
  rw [List.mem_cons,List.mem_cons,List.mem_cons,List.mem_cons,List.mem_singleton] at hb
  rcases hb with rfl | rfl | rfl | rfl | rfl
  ·exact ⟨_,a1,fun v q=>by cases (show Data.fields _=Data.cell v from q)⟩
  ·exact ⟨_,a2,fun v q=>by cases (show Data.seq _ _=Data.cell v from q)⟩
  ·exact ⟨_,a3,fun v q=>by cases (show Data.seq _ _=Data.cell v from q)⟩
  ·exact ok.itObj a4
  ·exact ok.itObj a5
 keep:=fun i h h' st kk=>by
  obtain ⟨a1,a2,⟨x,y,a3⟩,a4,a5⟩:=st
  exact ⟨kk _ (by simp) _ a1,kk _ (by simp) _ a2,⟨x,y,kk _ (by simp) _ a3⟩,ok.itAt a4 fun o e=>kk _ (by simp) o e,ok.itAt a5 fun o e=>kk _ (by simp) o e⟩
 item:=by
  intro X hP hw hK hc i pins s σ H E I hf st hg
  subst hP hw
  obtain ⟨a1,a2,⟨av,bv,a3⟩,a4,a5⟩:=st
  obtain ⟨xs,ys,x,y,g1,g2,g3,g4⟩:=hg
  obtain ⟨its,r1,t1⟩:=kr.of hK I g1
  obtain ⟨jts,r2,t2⟩:=kr.of hK I g2
  obtain ⟨u1,e1,e2⟩:=r1.get g3
  obtain ⟨u2,e3,e4⟩:=r2.get g4
  have hT:s.TypeIs (.ref z) "zip":=⟨_,a1,rfl⟩
  unfold pyNext
  refine wpAny_bind (wpAny_attempt (wpAny_callSpecial?_slot (name:=Str.ofString "__next__") hT F.slot_zip_next (wpAny_call_entry F.slot_zip_next hT F.entry_zip_next (li' ok D a1 a2 a3 a4 a5 t1 t2 ?_ ?_) (F.args_zip_next_1 _))))
  case refine_2 =>
   intro non
   have f1:its.toArray[i]?=some u1:=by simpa using e1
   have f2:jts.toArray[i]?=some u2:=by simpa using e3
   rw [f1,f2] at non
   rcases non with non | non<;>cases non
  intro y1 y2 k1 k2 h' ⟨_,b5⟩ b1 b2 ⟨b3,b4⟩ b7
  have f1:its.toArray[i]?=some u1:=by simpa using e1
  have f2:jts.toArray[i]?=some u2:=by simpa using e3
  rw [f1] at k1;cases k1
  rw [f2] at k2;cases k2
  refine ⟨_,rfl,wpAny_pure ⟨.ref s.heap.objs.size,rfl,wpAny_letOwnedTupleGo_zip b1 fun h2 c1 c2=>?_⟩⟩
  have lt:∀ {b o},s.heap.get? b=some o->b≠s.heap.objs.size:=fun {b o} e=>Nat.ne_of_lt (Heap.lt_size e)
  have zlt:=lt a1
  have tilt:=lt a2
  have tolt:=lt a3
  have kk:∀ b u,b∉[z,TI,TO,i1,i2]->s.heap.get? b=some u->h2.get? b=some u:=fun b u hb e=>by
   simp only [List.mem_cons,List.not_mem_nil,or_false,not_or] at hb
   exact c2.extBut _ _ hb.1 (b7 b u ⟨hb.1,hb.2.2.1,hb.2.2.2.1,hb.2.2.2.2⟩ e)
  have pT:IsPair h2 s.heap.objs.size u1 u2:=c2.extBut _ _ (Ne.symm zlt) b5
  have I1:Inv X pins σ (upd H s.heap.objs.size (.tup [x,y])) { s with heap:=h2 }:=lh' (t':=s.toks) I hf kk (Nat.le_refl _) ⟨by show 2<=sizeLine;rw [sizeLine_eq];decide,[u1,u2],.cons e2 (.cons e4 .nil),⟨_,pT,rfl,_,rfl⟩⟩
  have fr:=I.hok.fresh (Nat.le_refl s.heap.objs.size)
  refine ⟨.ref s.heap.objs.size,_,I1,rfl,⟨s.heap.objs.size,x,y,fr,rfl,rfl,fun zs hz=>by rw [kr.inj hK I hz g1];exact g3,fun zs hz=>by rw [kr.inj hK I hz g2];exact g4⟩,⟨c1,c2.extBut _ _ D.TIz (b7 _ _ ⟨D.TIz,D.TITO,D.TIi1,D.TIi2⟩ a2),⟨u1,u2,c2.extBut _ _ D.TOz b2⟩,ok.itAt b3 fun o e=>c2.extBut _ _ D.i1z e,ok.itAt b4 fun o e=>c2.extBut _ _ D.i2z e⟩,fun b hb=>?_⟩
  have hb0:=(hf b hb).1
  have nb:b≠s.heap.objs.size:=by
   rw [List.mem_cons,List.mem_cons,List.mem_cons,List.mem_cons,List.mem_singleton] at hb
   rcases hb with rfl | rfl | rfl | rfl | rfl
   ·exact zlt
   ·exact tilt
   ·exact tolt
   ·exact Nat.ne_of_lt (ok.itLt a4)
   ·exact Nat.ne_of_lt (ok.itLt a5)
  rw [am' nb];exact hb0
 done:=by
  intro X hP hw hK hc i pins s σ H E I hf st hg
  subst hP hw
  obtain ⟨a1,a2,⟨av,bv,a3⟩,a4,a5⟩:=st
  obtain ⟨xs,ys,g1,g2,g3⟩:=hg
  obtain ⟨its,r1,t1⟩:=kr.of hK I g1
  obtain ⟨jts,r2,t2⟩:=kr.of hK I g2
  have hl1:=r1.length
  have hl2:=r2.length
  have hT:s.TypeIs (.ref z) "zip":=⟨_,a1,rfl⟩
  unfold pyNext
  refine wpAny_bind (wpAny_attempt (wpAny_callSpecial?_slot (name:=Str.ofString "__next__") hT F.slot_zip_next (wpAny_call_entry F.slot_zip_next hT F.entry_zip_next (li' ok D a1 a2 a3 a4 a5 t1 t2 ?_ fun _=>⟨I.ok.hd hc,fun h' e hk he=>?_⟩) (F.args_zip_next_1 _))))
  ·intro y1 y2 k1 k2
   have m1:=(Array.getElem?_eq_some_iff.mp k1).1
   have m2:=(Array.getElem?_eq_some_iff.mp k2).1
   simp at m1 m2
   omega
  ·obtain ⟨o,ho,hce⟩:=he
   refine wpAny_bind (wpAny_isInstance (T := "StopIteration") (b:=true) ⟨o,ho,hce⟩ isSubtype_stop ?_)
   refine wpAny_pure ⟨rfl,j6' (t':=s.toks) I hf fun b u hb e=>?_⟩
   simp only [List.mem_cons,List.not_mem_nil,or_false,not_or] at hb
   exact hk b u ⟨hb.1,hb.2.2.1,hb.2.2.2.1,hb.2.2.2.2⟩ e
 self:=fun _ _ _ _ _ st h=>wpAny_pyIter_zip st.1 h
end
end DL
namespace DL
open PySem PySem.Spec PyProof.Rows L2
section
variable {X:Cx}{B:BB}{a b c e:Expr}{es:List Expr}{pos:Pos}{ga gb gc:M D}
def iZip (K:PySem.W.Frag) (ta:TA):TI:=fun σ H R=>ta σ H fun vs H1=>(∃ l1 l2 xs ys,vs=[.ref l1,.ref l2]/\SqL K H1 l1 xs/\SqL K H1 l2 ys/\R (Itz (fun H a xs=>SqL K H a xs) l1 l2) H1)\/(∃ l1 l2 xs ys,vs=[.ref l1,.ref l2]/\SqT K H1 l1 xs/\SqT K H1 l2 ys/\R (Itz (fun H a xs=>SqT K H a xs) l1 l2) H1)
theorem ph' {k:Kd}{rd:Hp->Addr->List V->Prop} (ok:KdOk k) (kr:KdRd X.K k rd){elts:List Expr}{x1:Nat}{tp:Pos}{pins:List (Addr×Obj)}{σ:L2.St}{H:Hp}{s:Shared}{R:It->Hp->Prop}{l1 l2:Addr}{xs ys:List V} (I:Inv X pins σ H s) (h1:rd H l1 xs) (h2:rd H l2 ys) (q:R (Itz rd l1 l2) H) :
  wpAny (model X.prog X.w) X.A (call (.type "zip") [.ref l1,.ref l2]) (fun v s1=>wpAny (model X.prog X.w) X.A (pyIter v) (PIE X pins σ (.Tuple elts x1 tp) R) X.xe s1) X.xe s:=by
 obtain ⟨its,r1,t1⟩:=kr.of rfl I h1
 obtain ⟨jts,r2,t2⟩:=kr.of rfl I h2
 refine pg' ok t1 t2 fun n h' hn a1 a2 a3 a4 a5 a6=>wpAny_pyIter_zip a1 ?_
 subst hn
 have I1:Inv X pins σ H { s with heap:=h' }:=I.kept (t':=s.toks) a6
 refine ⟨s.heap.objs.size+4,[s.heap.objs.size+4,s.heap.objs.size+2,s.heap.objs.size+3,s.heap.objs.size,s.heap.objs.size+1],_,_,H,rfl,I1,qH' ok kr (zipApart_new (ok.sqLt t1) (ok.sqLt t2)),⟨a1,a2,⟨_,_,a3⟩,a4,a5⟩,fun b hb=>?_,q⟩
 rw [List.mem_cons,List.mem_cons,List.mem_cons,List.mem_cons,List.mem_singleton] at hb
 have up:∀ n,FpOk X pins H (s.heap.objs.size+n):=fun n=>I.fpOk (Nat.le_add_right _ _) (I.hok.fresh (Nat.le_add_right _ _))
 rcases hb with rfl | rfl | rfl | rfl | rfl
 ·exact up 4
 ·exact up 2
 ·exact up 3
 ·exact up 0
 ·exact up 1
theorem tm' {elts:List Expr}{x1:Nat}{tp p:Pos}{ta:TA} (hg:Gl X "zip") (hm:X.mg "zip"=none) (ha:PA X [a,b] ta) (hs:starEach [a,b] X.env=[(false,eval a X.env),(false,eval b X.env)]:=by rfl) (hs2:starEach [b] X.env=[(false,eval b X.env)]:=by rfl) :
  PI X (.Tuple elts x1 tp) (.Call (.Name "zip" p) [a,b] [] pos) (iZip X.K ta):=by
 intro pins s σ H R I h
 refine Call_ (cQ' I hg hm boot_zip (PyProof.Rows.callWith_type1 (thn (ha pos pins s σ H _ I h) fun us s1 ⟨vs,H1,I1,r1,q1⟩=>?_) (by rw [hs,hs2]) (by rw [hs2];rfl)))
 rcases q1 with ⟨l1,l2,xs,ys,e,h1,h2,q⟩ | ⟨l1,l2,xs,ys,e,h1,h2,q⟩
 ·subst e
  obtain ⟨u1,u2,rfl,e1,e2⟩:=r1.two
  cases e1;cases e2
  exact ph' pe' (rp' _) I1 h1 h2 q
 ·subst e
  obtain ⟨u1,u2,rfl,e1,e2⟩:=r1.two
  cases e1;cases e2
  exact ph' pf' (rq' _) I1 h1 h2 q
def pairsD (xs ys:List D):List D:=(xs.zip ys).map fun p=>.tup [p.1,p.2]
def zipI (ds:List D):Option (List D):=match ds with
 | [.lst xs,.lst ys]=>some (pairsD xs ys)
 | [.tup xs,.tup ys]=>some (pairsD xs ys)
 | _=>none
theorem iL' {K:PySem.W.Frag}{I:Hp}{rd:Hp->Addr->List V->Prop}{l1 l2:Addr}{xs ys:List V}{ds es:List D} (mono:∀ {H a xs},Same I H->rd I a xs->rd H a xs) (inj:∀ {H},Same I H->(∀ zs,rd H l1 zs->zs=xs)/\(∀ zs,rd H l2 zs->zs=ys)\/True) (h1:rd I l1 xs) (h2:rd I l2 ys) (i1:IsA K I ds xs) (i2:IsA K I es ys):Yields K I (pairsD ds es) (Itz rd l1 l2):=fun i H s=>by
 have L1:=i1.length
 have L2:=i2.length
 refine ⟨fun d hd=>?_,fun hi=>⟨xs,ys,mono s h1,mono s h2,?_⟩⟩
 ·unfold pairsD at hd
  obtain ⟨q,e1,rfl⟩:=getMap hd
  obtain ⟨e2,e3⟩:=List.getElem?_zip_eq_some.mp e1
  obtain ⟨x,f1,f2⟩:=i1.get e2
  obtain ⟨y,f3,f4⟩:=i2.get e3
  refine ⟨⟨xs,ys,x,y,mono s h1,mono s h2,f1,f3⟩,fun v H2 hy=>?_⟩
  obtain ⟨p,x',y',g1,g2,g3,g4,g5⟩:=hy
  have k1:=g4 xs (mono s h1)
  have k2:=g5 ys (mono s h2)
  rw [f1] at k1;cases k1
  rw [f3] at k2;cases k2
  exact .inr ⟨p,[q.1,q.2],[x,y],rfl,g2,g1,g3,IsA.cons f2 (IsA.cons f4 IsA.nil)⟩
 ·unfold pairsD at hi
  rw [List.length_map,List.length_zip] at hi
  omega
theorem hJ' {elts:List Expr}{x1:Nat}{tp p:Pos}{t:M (List D)} (hg:Gl X "zip") (hm:X.mg "zip"=none) (ha:AD X B [a,b] t) (hs:starEach [a,b] X.env=[(false,eval a X.env),(false,eval b X.env)]:=by rfl) (hs2:starEach [b] X.env=[(false,eval b X.env)]:=by rfl) :
  ITD X B (.Tuple elts x1 tp) (.Call (.Name "zip" p) [a,b] [] pos) (fn1 zipI t):=PI.imp (tm' hg hm ha hs hs2) fun σ H R q=>by
 obtain ⟨G,I,Γ,ds,Γ',r,e1,k⟩:=q
 obtain ⟨d,Γ1,e2,e3⟩:=ai' e1
 obtain ⟨e4,rfl⟩:=ay' e3
 refine ⟨G,I,Γ,d,_,r,e2,fun vs H1 I1 r1 g1 hd=>?_⟩
 unfold zipI at e4
 split at e4
 ·cases e4
  obtain ⟨x,y,rfl,hx,hy⟩:=hd.two
  obtain ⟨l1,xs,rfl,h1,h2⟩:=aJ' hx
  obtain ⟨l2,ys,rfl,h3,h4⟩:=aJ' hy
  exact .inl ⟨l1,l2,xs,ys,rfl,(Same.rdK r1.iH h1).sq,(Same.rdK r1.iH h3).sq,k _ _ _ r1 g1 (iL' (fun s h=>by rcases h with h | h;exact .inl (Same.rd s h);exact .inr h) (fun _=>.inr trivial) h1.sq h3.sq h2 h4)⟩
 ·cases e4
  obtain ⟨x,y,rfl,hx,hy⟩:=hd.two
  obtain ⟨l1,xs,rfl,h1,h2⟩:=aD' hx
  obtain ⟨l2,ys,rfl,h3,h4⟩:=aD' hy
  exact .inr ⟨l1,l2,xs,ys,rfl,Same.sqT r1.iH h1,Same.sqT r1.iH h3,k _ _ _ r1 g1 (iL' (fun s h=>Same.sqT s h) (fun _=>.inr trivial) h1 h3 h2 h4)⟩
 ·cases e4
section
variable {k:Kd}
theorem drawsK (ok:KdOk k){prog:Program}{w:World}{A:Around} (hh:A.handled=none) (it l:Addr) (hne:l≠it) (items:Array Value):Draws prog w A it [it,l] items.size (fun i v=>items[i]?=some v) (fun i h=>k.it h it l i/\k.sq h l items) where
 live:=fun i h st=>by obtain ⟨o,e,_⟩:=ok.itObj st.1;exact ⟨o,e⟩
 frame:=fun i h h' st kk=>⟨ok.itAt st.1 fun o e=>kk _ (by simp) o e,ok.sqAt st.2 fun o e=>kk _ (by simp) o e⟩
 item:=fun i s Q E hi st hQ=>ok.item st.1 st.2 (x:=items[i]) (by simp [hi]) fun h' h1 h2=>hQ _ h' s.toks (by simp [hi]) ⟨h1,ok.sqAt st.2 fun o e=>h2.extBut _ _ hne e⟩ h2
 done:=fun s Q E st hE=>ok.stop hh st.1 st.2 (by simp) hE
theorem mv' (ok:KdOk k) (l:Addr) (items:Array Value) :
  Meets (Builtin.«enumerate.__new__» ⟨[.type "enumerate", .ref l],[]⟩) (fun _ R s=>k.sq s.heap l items ∧
   R (.ok (.ret (.ref (s.heap.push { cls:=.type k.nm,data:=.fields #[.ref l,.int 0 0] }).objs.size)))
    { s with heap:=(s.heap.push { cls:=.type k.nm,data:=.fields #[.ref l,.int 0 0] }).push { cls:=.type "enumerate", data:=.fields #[.none,.bool false,.ref s.heap.objs.size,rawInt 0,.none,.none] } }) :=
 .of_wp fun prog w A R s h=>by
  obtain ⟨hp,gn,dw,tk,os⟩:=s
  obtain ⟨hl,h⟩:=h
  have hsub:=sub_enumerate
  have hL:k.sq (Shared.heap ⟨hp,gn,dw,tk,os⟩) l items:=hl
  wp_walk using ok.iter hL
  refine wpAny_stack_any fun frames=>wpAny_pure ?_
  split
  next c _ _ _ _ _=>cases c == Value.type "enumerate"<;>(wp_walk using ok.iter hL;exact ⟨_,rfl,h⟩)
  next=>wp_walk using ok.iter hL;exact ⟨_,rfl,h⟩
end
end
end DL
namespace DL
open PySem PySem.Spec PyProof.Rows L2
section
variable {prog:Program}{w:World}{A:Around}{E:Value->Shared->Prop}{s:Shared}{k:Kd}
abbrev en1 (k:Kd) (h:Heap) (l:Addr):Heap:=h.push { cls:=.type k.nm,data:=.fields #[.ref l,.int 0 0] }
abbrev en2 (k:Kd) (h:Heap) (l:Addr):Heap:=(en1 k h l).push { cls:=.type "enumerate", data:=.fields #[.none,.bool false,.ref h.objs.size,rawInt 0,.none,.none] }
theorem n5' (ok:KdOk k){l:Addr}{items:Array Value}{Q:Value->Shared->Prop} (hL:k.sq s.heap l items)
  (made:∀ n g,n=s.heap.objs.size->IsEnum g (n+1) n 0 .none->k.it g n l 0->(∀ b o,s.heap.get? b=some o->g.get? b=some o)->Q (.ref (n+1)) { s with heap:=g }) :
  wpAny (model prog w) A (call (Value.type "enumerate") ([l].map Value.ref)) Q E s:=by
 have size1:(en1 k s.heap l).objs.size=s.heap.objs.size+1:=Heap.size_push ..
 have at2:(en2 k s.heap l).get? (en1 k s.heap l).objs.size=some _:=Heap.get?_push_size _ rfl
 rw [size1] at at2
 refine callType_new F.called_enumerate (by decide) (F.typeCall_enumerate_1 _) (F.newCall_enumerate_1 _) (fun obj=>F.args_object_init_2 obj _) F.entry_enumerate_new (mv' ok l items) ⟨hL,?_⟩
 have put:Q (.ref (s.heap.objs.size+1)) { s with heap:=en2 k s.heap l }:=made _ _ rfl at2 (ok.itAt ok.new fun o e=>Heap.get?_push_of_some _ e) fun b o x=>Heap.get?_push_of_some _ (Heap.get?_push_of_some _ x)
 rw [← size1] at put at2
 exact ⟨⟨_,at2,rfl⟩,put⟩
end
section
variable {X:Cx}{B:BB}{a b c e:Expr}{es:List Expr}{pos:Pos}{ga gb gc:M D}{k:Kd}
def Ite (rd:Hp->Addr->List V->Prop) (l:Addr):It :=
 ⟨fun i H=>∃ xs x,rd H l xs/\xs[i]?=some x,fun i H v H'=>∃ p x,H p=none/\v=.ref p/\H'=upd H p (.tup [.int i,x])/\(∀ xs,rd H l xs->xs[i]?=some x),fun i H=>∃ xs,rd H l xs/\xs.length<=i⟩
theorem pi' {P:Program}{w:World}{K:PySem.W.Frag}{elts:List Expr}{x1:Nat}{tp:Pos}{rd:Hp->Addr->List V->Prop} (ok:KdOk k) (kr:KdRd K k rd){z it l:Addr} (hzi:z≠it) (hli:l≠it) (hzl:z≠l) :
  Turn P w K (.Tuple elts x1 tp) (Ite rd l) [z,it] z (fun i h=>(∃ old,IsEnum h z it i old)/\k.it h it l i) where
 mem:=by simp
 obj:=fun i h st b hb=>by
  obtain ⟨⟨old,a1⟩,a2⟩:=st
  rw [List.mem_cons,List.mem_singleton] at hb
  rcases hb with rfl | rfl
  ·exact ⟨_,a1,fun v q=>by cases (show Data.fields _=Data.cell v from q)⟩
  ·exact ok.itObj a2
 keep:=fun i h h' st kk=>by
  obtain ⟨⟨old,a1⟩,a2⟩:=st
  exact ⟨⟨old,kk _ (by simp) _ a1⟩,ok.itAt a2 fun o e=>kk _ (by simp) o e⟩
 item:=by
  intro X hP hw hK hc i pins s σ H E I hf st hg
  subst hP hw
  obtain ⟨⟨old,a1⟩,a2⟩:=st
  obtain ⟨xs,x,g1,g3⟩:=hg
  obtain ⟨its,r1,t1⟩:=kr.of hK I g1
  obtain ⟨u1,e1,e2⟩:=r1.get g3
  have hlen:i < its.toArray.size:=by
   have:=(List.getElem?_eq_some_iff.mp e1).1
   simpa using this
  have D:=drawsK ok (prog:=X.prog) (w:=X.w) (A:=X.A.in1) (I.ok.hd hc) it l hli its.toArray
  refine wpAny_pyNext_enum_itemD D a1 ⟨a2,t1⟩ hlen hzi (by simp [hzi,hzl]) fun y h' tk b0 b1 b2 b3 b4 b5=>?_
  have hy:y=u1:=by
   have e1':its.toArray[i]?=some u1:=by simpa using e1
   have b0':its.toArray[i]?=some y:=b0
   rw [e1'] at b0';cases b0';rfl
  subst hy
  refine ⟨.ref s.heap.objs.size,rfl,wpAny_letOwnedTupleGo_enum b1 fun h2 c1 c2=>?_⟩
  have zlt:z≠s.heap.objs.size:=Nat.ne_of_lt (Heap.lt_size a1)
  have ilt:it≠s.heap.objs.size:=Nat.ne_of_lt (ok.itLt a2)
  have kk:∀ b u,b∉[z,it]->s.heap.get? b=some u->h2.get? b=some u:=fun b u hb e=>by
   simp only [List.mem_cons,List.not_mem_nil,or_false,not_or] at hb
   exact c2.extBut _ _ hb.1 (b5 b u hb.1 hb.2 e)
  have pT:=c2.extBut _ _ (Ne.symm zlt) b3
  have I1:Inv X pins σ (upd H s.heap.objs.size (.tup [.int i,x])) { s with heap:=h2,toks:=tk+1 }:=lh' (t':=tk+1) I hf kk (Nat.le_refl _) ⟨by show 2<=sizeLine;rw [sizeLine_eq];decide,[.int i tk,y],.cons ⟨_,rfl⟩ (.cons e2 .nil),⟨_,pT,rfl,_,rfl⟩⟩
  have fr:=I.hok.fresh (Nat.le_refl s.heap.objs.size)
  refine ⟨.ref s.heap.objs.size,_,I1,rfl,⟨s.heap.objs.size,x,fr,rfl,rfl,fun zs hz=>by rw [kr.inj hK I hz g1];exact g3⟩,⟨⟨y,c1⟩,ok.itAt b2.1 fun o e=>c2.extBut _ _ hzi.symm e⟩,fun b hb=>?_⟩
  have hb0:=(hf b hb).1
  have nb:b≠s.heap.objs.size:=by
   rw [List.mem_cons,List.mem_singleton] at hb
   rcases hb with rfl | rfl
   ·exact zlt
   ·exact ilt
  rw [am' nb];exact hb0
 done:=by
  intro X hP hw hK hc i pins s σ H E I hf st hg
  subst hP hw
  obtain ⟨⟨old,a1⟩,a2⟩:=st
  obtain ⟨xs,g1,g3⟩:=hg
  obtain ⟨its,r1,t1⟩:=kr.of hK I g1
  have hl1:=r1.length
  have hT:s.TypeIs (.ref z) "enumerate":=⟨_,a1,rfl⟩
  have hx:its.toArray[i]?=none:=by simp;omega
  unfold pyNext
  refine wpAny_bind (wpAny_attempt (wpAny_callSpecial?_slot (name:=Str.ofString "__next__") hT F.slot_enumerate_next (wpAny_call_entry F.slot_enumerate_next hT F.entry_enumerate_next (wpAny_bind (wpAny_of_eq (a:=(Value.ref z,[])) rfl (wpAny_bind (wpAny_field (i:=2) a1 rfl (x:=.ref it) rfl ?_)))) (F.args_enumerate_next_1 _))))
  refine wpAny_bind (ok.stop (I.ok.hd hc) a2 t1 hx fun h' x he' hx'=>?_)
  obtain ⟨o,ho,hce⟩:=hx'
  refine wpAny_bind (wpAny_isInstance (T := "StopIteration") (b:=true) ⟨o,ho,hce⟩ isSubtype_stop ?_)
  refine wpAny_pure ⟨rfl,j6' (t':=s.toks) I hf fun b u hb e=>?_⟩
  simp only [List.mem_cons,List.not_mem_nil,or_false,not_or] at hb
  exact he' b u hb.2 e
 self:=fun _ _ _ _ _ st h=>by obtain ⟨⟨old,a1⟩,_⟩:=st;exact wpAny_pyIter_enum a1 h
def iEnum (K:PySem.W.Frag) (ta:TA):TI:=fun σ H R=>ta σ H fun vs H1=>(∃ l xs,vs=[.ref l]/\SqL K H1 l xs/\R (Ite (fun H a xs=>SqL K H a xs) l) H1)\/(∃ l xs,vs=[.ref l]/\SqT K H1 l xs/\R (Ite (fun H a xs=>SqT K H a xs) l) H1)
theorem nh' {rd:Hp->Addr->List V->Prop} (ok:KdOk k) (kr:KdRd X.K k rd){elts:List Expr}{x1:Nat}{tp:Pos}{pins:List (Addr×Obj)}{σ:L2.St}{H:Hp}{s:Shared}{R:It->Hp->Prop}{l:Addr}{xs:List V} (I:Inv X pins σ H s) (h1:rd H l xs) (q:R (Ite rd l) H) :
  wpAny (model X.prog X.w) X.A (call (.type "enumerate") [.ref l]) (fun v s1=>wpAny (model X.prog X.w) X.A (pyIter v) (PIE X pins σ (.Tuple elts x1 tp) R) X.xe s1) X.xe s:=by
 obtain ⟨its,r1,t1⟩:=kr.of rfl I h1
 refine n5' ok t1 fun n h' hn a1 a4 a6=>wpAny_pyIter_enum a1 ?_
 subst hn
 have I1:Inv X pins σ H { s with heap:=h' }:=I.kept (t':=s.toks) a6
 have lt:=ok.sqLt t1
 refine ⟨s.heap.objs.size+1,[s.heap.objs.size+1,s.heap.objs.size],_,_,H,rfl,I1,pi' ok kr (Nat.succ_ne_self _) (Nat.ne_of_lt lt) (Nat.ne_of_gt (Nat.lt_succ_of_lt lt)),⟨⟨_,a1⟩,a4⟩,fun b hb=>?_,q⟩
 rw [List.mem_cons,List.mem_singleton] at hb
 have up:∀ n,FpOk X pins H (s.heap.objs.size+n):=fun n=>I.fpOk (Nat.le_add_right _ _) (I.hok.fresh (Nat.le_add_right _ _))
 rcases hb with rfl | rfl
 ·exact up 1
 ·exact up 0
theorem r0' {elts:List Expr}{x1:Nat}{tp p:Pos}{ta:TA} (hg:Gl X "enumerate") (hm:X.mg "enumerate"=none) (ha:PA X [a] ta) (hs:starEach [a] X.env=[(false,eval a X.env)]:=by rfl) :
  PI X (.Tuple elts x1 tp) (.Call (.Name "enumerate" p) [a] [] pos) (iEnum X.K ta):=by
 intro pins s σ H R I h
 refine Call_ (cQ' I hg hm boot_enumerate (PyProof.Rows.callWith_type1 (thn (ha pos pins s σ H _ I h) fun us s1 ⟨vs,H1,I1,r1,q1⟩=>?_) hs rfl))
 rcases q1 with ⟨l1,xs,e,h1,q⟩ | ⟨l1,xs,e,h1,q⟩
 ·subst e
  obtain ⟨u1,rfl,e1⟩:=r1.one
  cases e1
  exact nh' pe' (rp' _) I1 h1 q
 ·subst e
  obtain ⟨u1,rfl,e1⟩:=r1.one
  cases e1
  exact nh' pf' (rq' _) I1 h1 q
def numD:Nat->List D->List D
 | _,[]=>[]
 | n,d::ds=>.tup [.int n,d]::numD (n+1) ds
theorem fh':∀ {ds:List D}{n i:Nat}{d:D},(numD n ds)[i]?=some d->∃ x,ds[i]?=some x/\d=.tup [.int ((n+i:Nat):Int),x]
 | [],n,i,d,h=>by rw [numD] at h;simp at h
 | c::ds,n,0,d,h=>by rw [numD] at h;simp at h;exact ⟨c,rfl,h.symm⟩
 | c::ds,n,i+1,d,h=>by
  rw [numD] at h
  obtain ⟨x,e1,e2⟩:=fh' (i:=i) (by simpa using h)
  refine ⟨x,by simpa using e1,?_⟩
  rw [e2,show n+1+i=n+(i+1) from by omega]
theorem lj':∀ (ds:List D) (n:Nat),(numD n ds).length=ds.length
 | [],n=>by rw [numD]
 | c::ds,n=>by rw [numD,List.length_cons,List.length_cons,lj' ds]
def enumI (ds:List D):Option (List D):=match ds with
 | [.lst xs]=>some (numD 0 xs)
 | [.tup xs]=>some (numD 0 xs)
 | _=>none
theorem hZ' {K:PySem.W.Frag}{I:Hp}{rd:Hp->Addr->List V->Prop}{l:Addr}{xs:List V}{ds:List D} (mono:∀ {H a xs},Same I H->rd I a xs->rd H a xs) (h1:rd I l xs) (i1:IsA K I ds xs):Yields K I (numD 0 ds) (Ite rd l):=fun i H s=>by
 refine ⟨fun d hd=>?_,fun hi=>⟨xs,mono s h1,?_⟩⟩
 ·obtain ⟨y,e1,rfl⟩:=fh' hd
  obtain ⟨x,f1,f2⟩:=i1.get e1
  refine ⟨⟨xs,x,mono s h1,f1⟩,fun v H2 hy=>?_⟩
  obtain ⟨p,x',g1,g2,g3,g4⟩:=hy
  have k1:=g4 xs (mono s h1)
  rw [f1] at k1;cases k1
  refine .inr ⟨p,_,[.int i,x],rfl,g2,g1,g3,IsA.cons ?_ (IsA.cons f2 IsA.nil)⟩
  rw [Nat.zero_add]
  exact Is.int _
 ·rw [lj',i1.length] at hi
  exact hi
theorem lk' {elts:List Expr}{x1:Nat}{tp p:Pos}{t:M (List D)} (hg:Gl X "enumerate") (hm:X.mg "enumerate"=none) (ha:AD X B [a] t) (hs:starEach [a] X.env=[(false,eval a X.env)]:=by rfl) :
  ITD X B (.Tuple elts x1 tp) (.Call (.Name "enumerate" p) [a] [] pos) (fn1 enumI t):=PI.imp (r0' hg hm ha hs) fun σ H R q=>by
 obtain ⟨G,I,Γ,ds,Γ',r,e1,k⟩:=q
 obtain ⟨d,Γ1,e2,e3⟩:=ai' e1
 obtain ⟨e4,rfl⟩:=ay' e3
 refine ⟨G,I,Γ,d,_,r,e2,fun vs H1 I1 r1 g1 hd=>?_⟩
 unfold enumI at e4
 split at e4
 ·cases e4
  obtain ⟨x,rfl,hx⟩:=hd.one
  obtain ⟨l1,xs,rfl,h1,h2⟩:=aJ' hx
  exact .inl ⟨l1,xs,rfl,(Same.rdK r1.iH h1).sq,k _ _ _ r1 g1 (hZ' (fun s h=>by rcases h with h | h;exact .inl (Same.rd s h);exact .inr h) h1.sq h2)⟩
 ·cases e4
  obtain ⟨x,rfl,hx⟩:=hd.one
  obtain ⟨l1,xs,rfl,h1,h2⟩:=aD' hx
  exact .inr ⟨l1,xs,rfl,Same.sqT r1.iH h1,k _ _ _ r1 g1 (hZ' (fun s h=>Same.sqT s h) h1 h2)⟩
 ·cases e4
def blsD:List D->Option (List Bool)
 | []=>some []
 | .bl b::ds=>match blsD ds with
  | some bs=>some (b::bs)
  | none=>none
 | _=>none
theorem ik':∀ {ds:List D}{bs:List Bool},blsD ds=some bs->ds=bs.map .bl
 | [],bs,h=>by rw [blsD] at h;cases h;rfl
 | .bl b::ds,bs,h=>by
  rw [blsD] at h
  cases e:blsD ds with
  | none=>rw [e] at h;cases h
  | some cs=>rw [e] at h;cases h;rw [ik' e];rfl
 | .non::_,_,h=>by cases h
 | .int _::_,_,h=>by cases h
 | .str _::_,_,h=>by cases h
 | .tup _::_,_,h=>by cases h
 | .lst _::_,_,h=>by cases h
theorem il' {K:PySem.W.Frag}{I:Hp}:∀ {bs:List Bool}{xs:List V},IsA K I (bs.map .bl) xs->xs=bs.map .bl
 | [],xs,h=>h.nil_inv
 | b::bs,xs,h=>by
  obtain ⟨x,r,rfl,h1,h2⟩:=h.cons_inv
  rw [cj' h1,il' h2];rfl
theorem jn':∀ {bs:List Bool}{us:List Value},Vals (bs.map .bl) us->us=bs.map .bool
 | [],us,h=>by cases h;rfl
 | b::bs,us,h=>by
  cases h with
  | cons r t=>rw [jn' t];cases r;rfl
theorem pj' (bs:List Bool):(List.range bs.length).all (fun i=>bs.getD i true)=bs.all id:=by
 induction bs with
 | nil=>rfl
 | cons b bs ih =>
  rw [List.length_cons,List.range_succ_eq_map,List.all_cons,List.all_map,List.all_cons]
  congr 1
theorem pk' (bs:List Bool):(List.range bs.length).any (fun i=>bs.getD i true)=bs.any id:=by
 induction bs with
 | nil=>rfl
 | cons b bs ih =>
  rw [List.length_cons,List.range_succ_eq_map,List.any_cons,List.any_map,List.any_cons]
  congr 1
theorem pl' (hc:X.calm=true):CallR X (.builtin "all") (fun xs H Q=>∃ (p:Addr) (bs:List Bool),xs=[.ref p]/\SqL X.K H p (bs.map .bl)/\Q (.bl (bs.all id)) H):=by
 intro pins s σ H xs us Q I r h
 obtain ⟨p,bs,rfl,hq,q⟩:=h
 obtain ⟨u,rfl,ru⟩:=vals1 r
 cases ru
 obtain ⟨its,rv,t,hz⟩:=I.list hq
 have:=jn' rv
 subst this
 have lt:p < s.heap.objs.size:=by obtain ⟨_,e,_⟩:=t.isList;exact Heap.lt_size e
 refine call_all_walk (wpAny_pyIter_list t.isList ?_)
 refine ⟨s.heap.objs.size,_,_,_,_,_,fun i=>bs.getD i true,rfl,Walks.list (A:=X.A.in1) (I.ok.hd hc) s.heap.objs.size p (Nat.ne_of_lt lt) _,⟨⟨_,Heap.get?_push_size _ rfl,rfl,rfl⟩,t.isList.push _⟩,?_,?_⟩
 ·intro i v s' Q' E' hv hQ
  have hv':(bs.map Value.bool)[i]?=some v:=by simpa using hv
  obtain ⟨b,e1,rfl⟩:=getMap hv'
  have hQ:Q' (bs.getD i true) s':=hQ
  rw [List.getD_eq_getElem?_getD,e1] at hQ
  exact wpAny_truthy_bool hQ
 ·intro h' tk kk
  have e1:(bs.map Value.bool).toArray.size=bs.length:=by simp
  rw [e1,pj']
  refine ⟨.bl (bs.all id),H,I.kept fun b o e=>kk b o (by simp only [List.mem_singleton];exact Nat.ne_of_lt (Heap.lt_size e)) (Heap.get?_push_of_some _ e),rfl,q⟩
theorem pm' (hc:X.calm=true):CallR X (.builtin "any") (fun xs H Q=>∃ (p:Addr) (bs:List Bool),xs=[.ref p]/\SqL X.K H p (bs.map .bl)/\Q (.bl (bs.any id)) H):=by
 intro pins s σ H xs us Q I r h
 obtain ⟨p,bs,rfl,hq,q⟩:=h
 obtain ⟨u,rfl,ru⟩:=vals1 r
 cases ru
 obtain ⟨its,rv,t,hz⟩:=I.list hq
 have:=jn' rv
 subst this
 have lt:p < s.heap.objs.size:=by obtain ⟨_,e,_⟩:=t.isList;exact Heap.lt_size e
 refine call_any_walk (wpAny_pyIter_list t.isList ?_)
 refine ⟨s.heap.objs.size,_,_,_,_,_,fun i=>bs.getD i true,rfl,Walks.list (A:=X.A.in1) (I.ok.hd hc) s.heap.objs.size p (Nat.ne_of_lt lt) _,⟨⟨_,Heap.get?_push_size _ rfl,rfl,rfl⟩,t.isList.push _⟩,?_,?_⟩
 ·intro i v s' Q' E' hv hQ
  have hv':(bs.map Value.bool)[i]?=some v:=by simpa using hv
  obtain ⟨b,e1,rfl⟩:=getMap hv'
  have hQ:Q' (bs.getD i true) s':=hQ
  rw [List.getD_eq_getElem?_getD,e1] at hQ
  exact wpAny_truthy_bool hQ
 ·intro h' tk kk
  have e1:(bs.map Value.bool).toArray.size=bs.length:=by simp
  rw [e1,pk']
  refine ⟨.bl (bs.any id),H,I.kept fun b o e=>kk b o (by simp only [List.mem_singleton];exact Nat.ne_of_lt (Heap.lt_size e)) (Heap.get?_push_of_some _ e),rfl,q⟩
def allF (ds:List D):Option D:=match ds with
 | [.lst xs]=>match blsD xs with
  | some bs=>some (.bl (bs.all id))
  | none=>none
 | _=>none
def anyF (ds:List D):Option D:=match ds with
 | [.lst xs]=>match blsD xs with
  | some bs=>some (.bl (bs.any id))
  | none=>none
 | _=>none
theorem tn' {p:Pos}{t:M (List D)} (hc:X.calm=true) (hg:Gl X "all") (hm:X.mg "all"=none) (ha:AD X B [e] t) (he:starEach [e] X.env=(false,eval e X.env)::starEach [] X.env:=by rfl) (hpl:(backTo pos (starEach [] X.env)).any (·.1)=false:=by rfl) :
  ED X B (.Call (.Name "all" p) [e] [] pos) (fn1 allF t):=f1' (pl' hc) (fun ds d e B G I H σ Γ xs Q r h k=>by
 unfold allF at e
 split at e
 ·split at e
  ·rename_i bs eb
   cases e
   have:=ik' eb
   subst this
   obtain ⟨x,rfl,hx⟩:=h.one
   obtain ⟨q,zs,rfl,h3,h4⟩:=aJ' hx
   have:=il' h4
   subst this
   exact ⟨q,bs,rfl,(Same.rdK r.iH h3).sq,k.now r (Is.bl _)⟩
  ·cases e
 ·cases e) hg hm boot_all ha (by decide) (by decide) he hpl
theorem tp' {p:Pos}{t:M (List D)} (hc:X.calm=true) (hg:Gl X "any") (hm:X.mg "any"=none) (ha:AD X B [e] t) (he:starEach [e] X.env=(false,eval e X.env)::starEach [] X.env:=by rfl) (hpl:(backTo pos (starEach [] X.env)).any (·.1)=false:=by rfl) :
  ED X B (.Call (.Name "any" p) [e] [] pos) (fn1 anyF t):=f1' (pm' hc) (fun ds d e B G I H σ Γ xs Q r h k=>by
 unfold anyF at e
 split at e
 ·split at e
  ·rename_i bs eb
   cases e
   have:=ik' eb
   subst this
   obtain ⟨x,rfl,hx⟩:=h.one
   obtain ⟨q,zs,rfl,h3,h4⟩:=aJ' hx
   have:=il' h4
   subst this
   exact ⟨q,bs,rfl,(Same.rdK r.iH h3).sq,k.now r (Is.bl _)⟩
  ·cases e
 ·cases e) hg hm boot_any ha (by decide) (by decide) he hpl
def reprF (ds:List D):Option D:=match ds with
 | [.bl b]=>some (.str (if b then "True" else "False"))
 | _=>none
end
end DL
namespace DL
open PySem PySem.Spec PyProof.Rows L2
theorem CompScope.of {osc sc:Scope}{N N':List Str}{m:Nat}
  (h:decide (sc.kind=.function/\(∀ y∈sc.names,y.2≠.cell)/\(∀ y∈sc.names,y.2=.local->sc.names.lookup y.1=some .local)/\(∀ y∈sc.names,y.2=.free->osc.names.lookup y.1=some .cell\/osc.names.lookup y.1=some .free)/\N'.Nodup/\N'.length=m+N.length ∧
   (∀ p∈(N'.drop m).zip N,((relab sc osc).names.lookup p.1=none)\/(p.1=p.2/\(relab sc osc).names.lookup p.1≠some .local)))=true):CompScope osc sc N N' m:=by
 obtain ⟨h1,h2,h3,h4,h5,h6,h7⟩:=of_decide_eq_true h
 exact ⟨h1,h2,h3,h4,h5,h6,h7⟩
theorem hK' {P:Program}{w:World}{K:PySem.W.Frag}{mg:Str->Option Value}{base:Heap}{k:Nat}{f:Addr}{fd:FuncData}{ps:List Str}:FnOk P w K mg base CX0 k f fd ps (spD K fun _=>none):=by
 have no:∀ vs H Q E,¬ spD K (fun _=>none) vs H Q E:=fun vs H Q E h=>by
  obtain ⟨_,_,_,_,_,_,_,h,_⟩:=h
  cases h
 exact ⟨fun vs H Q E h=>absurd h (no vs H Q E),fun A outer s H args us vs Q E _ _ _ _ h=>absurd h (no vs H Q E)⟩
theorem tq' {K:PySem.W.Frag}{H:Hp}{a:Addr}{ns:List Int}{g:List R->Option (R×List R)} (hrd:RdK K H a (ns.map V.int))
  (hg:∃ rs,g [.val (.lst (ns.map D.int))]=some (.val (.bl true),rs)):spD K g [.ref a] H (fun v _=>v=.bl true) fun _ _ _=>False:=by
 obtain ⟨rs,hg⟩:=hg
 have allI:∀ ns:List Int,IsA K H (ns.map D.int) (ns.map V.int):=fun ns=>by
  induction ns with
  | nil=>exact IsA.nil
  | cons n ns ih=>exact IsA.cons (Is.int n) ih
 refine ⟨H,H,[.val (.lst (ns.map D.int))],.val (.bl true),rs,?_,rfl,hg,fun v H' I' r g' hv=>cj' (K:=K) (I:=I') hv⟩
 refine ⟨Same.refl _,Same.refl _,rfl,fun i r e=>?_,fun i j r r' v e e' m=>?_,fun i ds e=>rfl⟩
 ·match i,e with
  | 0,e=>cases e;exact ⟨_,rfl,Is.lst hrd (allI ns)⟩
 ·match i,e with
  | 0,e=>cases e;cases m
theorem pn' {P:Program}{w:World}{K:PySem.W.Frag}{mg mb:Str->Option Value}{CX:CXT}{k:Nat}{fa a:Addr}{fd:FuncData}{x:Str}{sp:Sp}{s₁:Shared}{vs:List Value}{ns:List Int}
  (KX:K.In s₁.heap) (hns:s₁.heap.Ns mainGlobals mg) (hb:s₁.heap.Ns builtinsNs mb) (hbb:∀ x:Str,x ≠ "__name__"->mb x=bootBuiltins x) (hlim:s₁.heap.NoLimit) (hg:s₁.gens=#[])
  (ha:s₁.heap.get? a=some { cls:=.type "list", data:=.seq vs.toArray }) (hi:IntsAre vs ns) (hl:ns.length<=sizeLine) (hr:Room k callerA)
  (F:∀ base:Heap,K.In base->base.Ns mainGlobals mg->FnOk P w K mg base CX k fa fd [x] sp) (hbind:∀ (s:Shared) (u:Value),BindsTo s fd ⟨[u],[]⟩ [(x,u)])
  (hsp:∀ H:Hp,Only H->RdK K H a (ns.map V.int)->sp [.ref a] H (fun v _=>v=.bl true) fun _ _ _=>False)
  (hCX:∀ H e s',CX [] H s₁ (fun _ _ _=>False) e s'->False) :
  codeAny (model P w) callerA (.call (.ref fa) ⟨[.ref a],[]⟩) (fun r s'=>r=.ok (.ret (.bool true))/\OldK s₁.heap s'.heap/\s'.os=s₁.os/\AllBare s'.gens) s₁:=by
 have rv:=jZ' hi
 have lenV:=hi.length
 -- from an abstract heap in which nothing but the script may be tracked
 have core:∀ H:Hp,Only H->RdK K H a (ns.map V.int)->HOk P w H s₁.heap->(∀ b,H b≠none->b=a)->(H a≠none->K.lookup a=none) →
   codeAny (model P w) callerA (.call (.ref fa) ⟨[.ref a],[]⟩) (fun r s'=>r=.ok (.ret (.bool true))/\OldK s₁.heap s'.heap/\s'.os=s₁.os/\AllBare s'.gens) s₁:=by
  intro H hO hS hok hA hK
  have base_of:∀ {b:Addr}{o:Obj},s₁.heap.get? b=some o->H b=none->(hidT s₁.heap H).get? b=some o:=fun e n=>qm' e n
  have noA:∀ {b:Addr}{o:Obj}{es:Array DictEntry}{ep:Nat},s₁.heap.get? b=some o->o.data=.dict es ep->H b=none:=fun {b o es ep} e d=>by
   cases q:H b with
   | none=>rfl
   | some u =>
    have e':b=a:=hA b (by rw [q];simp)
    subst e'
    rw [ha] at e;cases e
    have d':Data.seq vs.toArray _=Data.dict es ep:=d
    cases d'
  have nsK:∀ {b:Addr}{m:Str->Option Value},s₁.heap.Ns b m->(hidT s₁.heap H).Ns b m:=fun {b m} ⟨o,es,ep,e,d,r⟩=>⟨o,es,ep,base_of e (noA e d),d,r⟩
  have hKb:K.In (hidT s₁.heap H):=fun b o e=>base_of (KX b o e) (by
   cases q:H b with
   | none=>rfl
   | some u =>
    have e':b=a:=hA b (by rw [q];simp)
    subst e'
    rw [hK (by rw [q];simp)] at e;cases e)
  have hM:Mod K mg (hidT s₁.heap H):=⟨hKb,nsK hns,⟨mb,nsK hb,hbb⟩,let ⟨mc,h1,h2⟩:=hlim;⟨mc,nsK h1,h2⟩⟩
  have e0:Env0 P w K mg (hidT s₁.heap H) callerA [] s₁ H:=⟨rfl,hM,fun b o e=>rB' e,Nat.le_of_eq (oR' _ _),trivial,fun b hb=>absurd (show b∈([]:List Addr) from hb) (by simp),hok,.of_eq hg⟩
  refine codeAny_mono ((F _ hKb (nsK hns)).run callerA [] s₁ H ⟨[.ref a],[]⟩ [.ref a] [.ref a] _ _ hr e0 (hbind s₁ (.ref a)) (.cons rfl .nil) (hsp H hO hS)) fun r s' h=>?_
  cases r with
  | error e=>exact (hCX H e s' h).elim
  | ok fl =>
   cases fl with
   | next=>exact False.elim h
   | brk=>exact False.elim h
   | cont=>exact False.elim h
   | ret u =>
    obtain ⟨v,H',os,bare,un,hok',r',q⟩:=h
    have q':v=.bl true:=q
    subst q'
    obtain rfl:u=Value.bool true:=r'
    refine ⟨rfl,OldK.of_keep fun b o e=>?_,os,bare⟩
    cases q:H b with
    | none=>exact un.keep b o e q (by intro z;exact absurd (show b∈([]:List Addr) from z) (by simp)) (by simp)
    | some u =>
     rcases hO b with z | ⟨ob,xs,z⟩
     ·rw [q] at z;cases z
     ·have z2:=un.frzs b ob _ z
      obtain ⟨e1,_⟩:=hok b _ z
      obtain ⟨e2,_⟩:=hok' b _ z2
      rw [e] at e1;cases e1
      exact e2
 cases hk:K.lookup a with
 | some o =>
  -- the script is one of the module's own objects
  have e:=KX a o hk
  rw [ha] at e
  cases e
  refine core (fun _=>none) (fun _=>.inl rfl) (.inr ⟨vs,_,hk,rv,by rw [lenV];exact hl⟩) (fun b u z=>by have z':(none:Option HO)=some u:=z;cases z') (fun b z=>absurd rfl z) fun z=>absurd rfl z
 | none =>
  refine core (fun b=>if b=a then some (.frz { cls:=.type "list", data:=.seq vs.toArray } (.lst (ns.map V.int))) else none) (fun b=>?_) (.inl (.inr ⟨{ cls:=.type "list", data:=.seq vs.toArray },if_pos rfl⟩)) (fun b u z=>?_) (fun b z=>?_) fun _=>hk
  ·by_cases hb:b=a
   ·exact .inr ⟨_,_,if_pos hb⟩
   ·exact .inl (if_neg hb)
  ·by_cases hb:b=a
   ·have z':=(if_pos hb).symm.trans z
    cases z'
    subst hb
    exact ⟨ha,by rw [List.length_map];exact hl,vs,_,rv,ha⟩
   ·have z':=(if_neg hb).symm.trans z
    cases z'
  ·by_cases hb:b=a
   ·exact hb
   ·exact absurd (if_neg hb) z
theorem qI' {l:PySem.W.OpenLaw}{n k:Nat}{q:Program}{loose:List Str}{XP:(Str->Option Value)->Heap->Prop}{YP:World->Heap->Prop}{d:DefRec}{K:Params->PySem.W.Frag}{CX:World->CXT}{sp:World->Sp}{x:Str}
  (hn:l.most=some n) (hn2:n<=sizeLine) (hdf:d.params.defaults=[]) (hr:Room k callerA)
  (hY:∀ (w:World) (h:Heap),YP w h->(K w.params).In h)
  (F:∀ (w:World) (mg:Str->Option Value) (fa:Addr) (h:Heap),(K w.params).In h->h.Ns mainGlobals mg->mg d.name=some (.ref fa) →
   ∃ fd:FuncData,(∀ (s:Shared) (u:Value),BindsTo s fd ⟨[u],[]⟩ [(x,u)]) ∧
    ∀ base:Heap,(K w.params).In base->base.Ns mainGlobals mg->FnOk l.prog w (K w.params) mg base (CX w) k fa fd [x] (sp w))
  (hsp:∀ (w:World) (H:Hp) (a:Addr) (ns:List Int),ns.length<=n->Only H->RdK (K w.params) H a (ns.map V.int)->sp w [.ref a] H (fun v _=>v=.bl true) fun _ _ _=>False)
  (hCX:∀ (w:World) (H:Hp) (s:Shared) (e:Value) (s':Shared),CX w [] H s (fun _ _ _=>False) e s'->False) :
  PySem.W.WalkO q loose XP YP l.row.toRowW d [] (fun f vs=>PySem.call f vs):=by
 refine Att.tW' hn hdf fun w s₀ s₁ mg mb fa o pm cd doc a vs ns G Y ho hd hcd hmg hobj hints hlen hg=>?_
 have KX:=hY w _ Y
 obtain ⟨fd,hb,hF⟩:=F w mg fa _ KX G.T.g hmg
 exact pn' KX G.T.g G.T.b G.T.builtins G.T.nolimit hg hobj hints (Nat.le_trans hlen hn2) hr hF hb (fun H hO hS=>hsp w H a ns hlen hO hS) fun H e s'=>hCX w H s₁ e s'
end DL
namespace DL
open PySem PySem.Spec PyProof.Rows L2
def un1 {α:Type} (F:D->Option α) (g:M D):M α:=bnd g fun d=>lft (F d)
inductive Ki where
 | iT | sT | bT | tT | lT
def Ki.nm:Ki->String
 | .iT => "int"
 | .sT => "str"
 | .bT => "bool"
 | .tT => "tuple"
 | .lT => "list"
def isiB:Ki->D->Bool
 | .iT,.int _=>true
 | .iT,.bl _=>true
 | .sT,.str _=>true
 | .bT,.bl _=>true
 | .tT,.tup _=>true
 | .lT,.lst _=>true
 | _,_=>false
def isiF (k:Ki) (d:D):Option D:=some (.bl (isiB k d))
section
variable {X:Cx}{B:BB}{e:Expr}{ga:M D}{pos:Pos}
theorem qJ' {k:Ki}{h:Heap}{a:Addr}{its:Array Value}{prog:Program}{w:World}{A:Around}{E:Value->Shared->Prop}{s:Shared}{Q:Value->Shared->Prop}{ds:List D} (hl:s.heap.IsList a its) (q:∀ t,Q (.bool (isiB k (.lst ds))) { s with toks:=t }):wpAny (model prog w) A (call (.builtin "isinstance") [.ref a,.type k.nm]) Q E s:=by
 cases k
 ·exact PySem.IsiPair.isList_int hl (fun _ _ z=>z) (q _)
 ·exact PySem.IsiPair.isList_str hl (fun _ _ z=>z) (q _)
 ·exact PySem.IsiPair.isList_bool hl (fun _ _ z=>z) (q _)
 ·exact PySem.IsiPair.isList_tuple hl (fun _ _ z=>z) (q _)
 ·exact PySem.IsiPair.isList_list hl (fun _ _ z=>z) (q _)
theorem po' {k:Ki}{h:Heap}{a:Addr}{its:Array Value}{prog:Program}{w:World}{A:Around}{E:Value->Shared->Prop}{s:Shared}{Q:Value->Shared->Prop}{ds:List D} (hl:s.heap.IsTuple a its) (q:∀ t,Q (.bool (isiB k (.tup ds))) { s with toks:=t }):wpAny (model prog w) A (call (.builtin "isinstance") [.ref a,.type k.nm]) Q E s:=by
 cases k
 ·exact PySem.IsiPair.isTuple_int hl (fun _ _ z=>z) (q _)
 ·exact PySem.IsiPair.isTuple_str hl (fun _ _ z=>z) (q _)
 ·exact PySem.IsiPair.isTuple_bool hl (fun _ _ z=>z) (q _)
 ·exact PySem.IsiPair.isTuple_tuple hl (fun _ _ z=>z) (q _)
 ·exact PySem.IsiPair.isTuple_list hl (fun _ _ z=>z) (q _)
theorem pp' (k:Ki):CallR X (.builtin "isinstance") (fun xs H Q=>∃ d x,xs=[x,.ty k.nm]/\Is X.K H d x/\Q (.bl (isiB k d)) H):=by
 intro pins s σ H xs us Q I r h
 obtain ⟨d,x,rfl,hd,q⟩:=h
 cases r with
 | cons rx r =>
  cases r with
  | cons rt r =>
   cases r
   cases rt
   have fin:∀ t,EP X pins σ Q (.bool (isiB k d)) { s with toks:=t }:=fun t=>⟨.bl _,H,I.tok _,rfl,q⟩
   cases d with
   | non =>
    cases (show x=.non from by rw [Is] at hd;exact hd)
    cases rx
    cases k
    ·exact PySem.IsiPair.NoneType_int (fin _)
    ·exact PySem.IsiPair.NoneType_str (fin _)
    ·exact PySem.IsiPair.NoneType_bool (fin _)
    ·exact PySem.IsiPair.NoneType_tuple (fin _)
    ·exact PySem.IsiPair.NoneType_list (fin _)
   | bl b =>
    cases cj' hd
    cases rx
    cases k
    ·exact PySem.IsiPair.bool_int (fin _)
    ·exact PySem.IsiPair.bool_str (fin _)
    ·exact PySem.IsiPair.bool_bool (fin _)
    ·exact PySem.IsiPair.bool_tuple (fin _)
    ·exact PySem.IsiPair.bool_list (fin _)
   | int i =>
    cases ar' hd
    obtain ⟨t,rfl⟩:=rx
    cases k
    ·exact PySem.IsiPair.int_int (fin _)
    ·exact PySem.IsiPair.int_str (fin _)
    ·exact PySem.IsiPair.int_bool (fin _)
    ·exact PySem.IsiPair.int_tuple (fin _)
    ·exact PySem.IsiPair.int_list (fin _)
   | str y =>
    cases (show x=.str y from by rw [Is] at hd;exact hd)
    obtain ⟨t,rfl⟩:=rx
    cases k
    ·exact PySem.IsiPair.str_int (fin _)
    ·exact PySem.IsiPair.str_str (fin _)
    ·exact PySem.IsiPair.str_bool (fin _)
    ·exact PySem.IsiPair.str_tuple (fin _)
    ·exact PySem.IsiPair.str_list (fin _)
   | tup ds =>
    obtain ⟨a,xs,rfl,h1,h2⟩:=aD' hd
    cases rx
    obtain ⟨its,_,t,_⟩:=I.tuple h1
    exact po' (h:=s.heap) t fin
   | lst ds =>
    obtain ⟨a,xs,rfl,h1,h2⟩:=aJ' hd
    cases rx
    obtain ⟨its,_,t,_⟩:=I.list h1.sq
    exact qJ' (h:=s.heap) t.isList fin
theorem uf' {k:Ki}:∀ σ H Q,tD X.K B (un1 (isiF k) ga) σ H Q->tCB (fun xs H Q=>∃ d x,xs=[x,.ty k.nm]/\Is X.K H d x/\Q (.bl (isiB k d)) H) (tCons (tD X.K B ga) (tCons (tC (.ty k.nm)) tNil)) σ H Q:=fun σ H Q q=>by
 obtain ⟨G,I,Γ,d,Γ',r,e1,k⟩:=q
 obtain ⟨d1,Γ1,e2,e3⟩:=ai' e1
 obtain ⟨e4,rfl⟩:=ay' e3
 cases e4
 exact ⟨G,I,Γ,d1,_,r,e2,fun v H1 I1 r1 g1 h1=>⟨d1,v,rfl,h1.mono r1.iH,k _ _ _ r1 g1 (Is.bl _)⟩⟩
theorem gN' {k:Ki}{t:Str}{p p2:Pos} (hv:bootBuiltins t=some (.type k.nm)) (hn:t ≠ "__name__") (hd:(t == ("__debug__":Str))=false) (hg:Gl X "isinstance") (hm:X.mg "isinstance"=none) (hg2:Gl X t) (hm2:X.mg t=none) (ha:ED X B e ga)
  (he:starEach [e,.Name t p2] X.env=(false,eval e X.env)::starEach [.Name t p2] X.env:=by rfl) (he2:starEach [.Name t p2] X.env=(false,eval (.Name t p2) X.env)::starEach [] X.env:=by rfl) (hpl:(backTo pos (starEach [.Name t p2] X.env)).any (·.1)=false:=by rfl) :
  ED X B (.Call (.Name "isinstance" p) [e,.Name t p2] [] pos) (un1 (isiF k) ga) :=
 PE.imp (gc' (pp' k) hg hm boot_isinstance (c3' ha (c3' (rD' (v:=.ty k.nm) hg2 hm2 hv rfl hn hd) gG' he2) he) (by decide) (by decide) he hpl) uf'
theorem gf' {p p2:Pos} (hg:Gl X "isinstance") (hm:X.mg "isinstance"=none) (hg2:Gl X "int") (hm2:X.mg "int"=none) (ha:ED X B e ga)
  (he:starEach [e,.Name "int" p2] X.env=(false,eval e X.env)::starEach [.Name "int" p2] X.env:=by rfl) (he2:starEach [.Name "int" p2] X.env=(false,eval (.Name "int" p2) X.env)::starEach [] X.env:=by rfl) (hpl:(backTo pos (starEach [.Name "int" p2] X.env)).any (·.1)=false:=by rfl) :
  ED X B (.Call (.Name "isinstance" p) [e,.Name "int" p2] [] pos) (un1 (isiF .iT) ga):=gN' (k:=.iT) boot_int (by decide) (by decide) hg hm hg2 hm2 ha he he2 hpl
theorem n6' {p p2:Pos} (hg:Gl X "isinstance") (hm:X.mg "isinstance"=none) (hg2:Gl X "str") (hm2:X.mg "str"=none) (ha:ED X B e ga)
  (he:starEach [e,.Name "str" p2] X.env=(false,eval e X.env)::starEach [.Name "str" p2] X.env:=by rfl) (he2:starEach [.Name "str" p2] X.env=(false,eval (.Name "str" p2) X.env)::starEach [] X.env:=by rfl) (hpl:(backTo pos (starEach [.Name "str" p2] X.env)).any (·.1)=false:=by rfl) :
  ED X B (.Call (.Name "isinstance" p) [e,.Name "str" p2] [] pos) (un1 (isiF .sT) ga):=gN' (k:=.sT) boot_str (by decide) (by decide) hg hm hg2 hm2 ha he he2 hpl
theorem et' {p p2:Pos} (hg:Gl X "isinstance") (hm:X.mg "isinstance"=none) (hg2:Gl X "bool") (hm2:X.mg "bool"=none) (ha:ED X B e ga)
  (he:starEach [e,.Name "bool" p2] X.env=(false,eval e X.env)::starEach [.Name "bool" p2] X.env:=by rfl) (he2:starEach [.Name "bool" p2] X.env=(false,eval (.Name "bool" p2) X.env)::starEach [] X.env:=by rfl) (hpl:(backTo pos (starEach [.Name "bool" p2] X.env)).any (·.1)=false:=by rfl) :
  ED X B (.Call (.Name "isinstance" p) [e,.Name "bool" p2] [] pos) (un1 (isiF .bT) ga):=gN' (k:=.bT) boot_bool (by decide) (by decide) hg hm hg2 hm2 ha he he2 hpl
theorem gO' {p p2:Pos} (hg:Gl X "isinstance") (hm:X.mg "isinstance"=none) (hg2:Gl X "tuple") (hm2:X.mg "tuple"=none) (ha:ED X B e ga)
  (he:starEach [e,.Name "tuple" p2] X.env=(false,eval e X.env)::starEach [.Name "tuple" p2] X.env:=by rfl) (he2:starEach [.Name "tuple" p2] X.env=(false,eval (.Name "tuple" p2) X.env)::starEach [] X.env:=by rfl) (hpl:(backTo pos (starEach [.Name "tuple" p2] X.env)).any (·.1)=false:=by rfl) :
  ED X B (.Call (.Name "isinstance" p) [e,.Name "tuple" p2] [] pos) (un1 (isiF .tT) ga):=gN' (k:=.tT) boot_tuple (by decide) (by decide) hg hm hg2 hm2 ha he he2 hpl
theorem h0' {p p2:Pos} (hg:Gl X "isinstance") (hm:X.mg "isinstance"=none) (hg2:Gl X "list") (hm2:X.mg "list"=none) (ha:ED X B e ga)
  (he:starEach [e,.Name "list" p2] X.env=(false,eval e X.env)::starEach [.Name "list" p2] X.env:=by rfl) (he2:starEach [.Name "list" p2] X.env=(false,eval (.Name "list" p2) X.env)::starEach [] X.env:=by rfl) (hpl:(backTo pos (starEach [.Name "list" p2] X.env)).any (·.1)=false:=by rfl) :
  ED X B (.Call (.Name "isinstance" p) [e,.Name "list" p2] [] pos) (un1 (isiF .lT) ga):=gN' (k:=.lT) boot_list (by decide) (by decide) hg hm hg2 hm2 ha he he2 hpl
def negI (d:D):Option D:=match d with
 | .int i=>some (.int (-i))
 | _=>none
theorem ug':∀ σ H Q,tD X.K B (un1 negI ga) σ H Q->tUn (rU fun i=>.int (-i)) (tD X.K B ga) σ H Q:=fun σ H Q q=>by
 obtain ⟨G,I,Γ,d,Γ',r,e1,k⟩:=q
 obtain ⟨d1,Γ1,e2,e3⟩:=ai' e1
 obtain ⟨e4,rfl⟩:=ay' e3
 unfold negI at e4
 split at e4
 ·cases e4
  exact ⟨G,I,Γ,_,_,r,e2,fun v H1 I1 r1 g1 h1=>⟨_,ar' h1,k _ _ _ r1 g1 (Is.int _)⟩⟩
 ·cases e4
theorem tr' (ha:ED X B e ga):ED X B (.UnaryOp .USub e pos) (un1 negI ga):=PE.imp (t1' sV' ha) ug'
end
end DL
namespace PySem.SeqAt
def RcLtAt (A:Around) (s:Shared) (y x:Value) (b:Bool):Prop :=
 ∀ (prog:Program) (w:World) (E:Value->Shared->Prop) (Q:Value->Shared->Prop),Q (.bool b) s->wpAny (model prog w) A (richCompare .Lt y x) Q E s
def ltFrom (e lt:Nat->Bool) (d:Bool):List Nat->Bool
 | []=>d
 | i::r=>if e i then ltFrom e lt d r else lt i
theorem n7' (u v:Addr) (us vs:Array Value) (p q:Nat) (du dv:Option Addr) (ku kv:Array (Option Value)) (e lt:Nat->Bool) :
  Meets (Builtin.«tuple.__lt__» ⟨[.ref u,.ref v],[]⟩) (fun A out s=>(s.heap.get? u=some ⟨.type "tuple", du,.seq us p,ku⟩/\s.heap.get? v=some ⟨.type "tuple", dv,.seq vs q,kv⟩) ∧
    (∀ j (h1:j < us.size) (h2:j < vs.size),EqAt A.in1 s us[j] vs[j] (e j)/\(e j=false->RcLtAt A.in1 s us[j] vs[j] (lt j)))/\out (.ok (.ret (.bool (ltFrom e lt (decide (us.size < vs.size)) (List.range (min us.size vs.size)))))) s) :=
 .of_wp fun prog w A out s given=>by
  obtain ⟨hp,gn,dw,tk,os⟩:=s
  obtain ⟨⟨gu,gv⟩,pair,told⟩:=given
  obtain ⟨says,hs⟩:∃ says:Nat->Prop,says=fun i=>out (.ok (.ret (.bool (ltFrom e lt (decide (us.size < vs.size)) ((List.range (min us.size vs.size)).drop i))))) ⟨hp,gn,dw,tk,os⟩:=⟨_,rfl⟩
  have both:=AutoSeq1.sub_tuple_tuple
  have len:(us.toList.zip vs.toList).length=min us.size vs.size:=by rw [List.length_zip];rfl
  wp_walk using AutoSeq1.wpAny_loadPart' gu,AutoSeq1.wpAny_loadPart' gv,wpAny_forIn_list _ (fun left got now=>got.1=none/\now=⟨hp,gn,dw,tk,os⟩/\∃ i,left=(us.toList.zip vs.toList).drop i/\says i) _
  case turn =>
   rintro ⟨y,x⟩ left got now ⟨none',rfl,i,at',say⟩
   have here:i < min us.size vs.size:=by
    rw [← len]
    exact Nat.lt_of_not_le fun no=>by rw [List.drop_eq_nil_of_le no] at at';exact List.cons_ne_nil _ _ at'
   have k1:i < us.size:=by omega
   have k2:i < vs.size:=by omega
   have cut:=List.drop_eq_getElem_cons (l:=us.toList.zip vs.toList) (i:=i) (len▸here)
   rw [← at',List.getElem_zip] at cut
   obtain ⟨yx,tail⟩:=List.cons.inj cut
   obtain ⟨rfl,rfl⟩:=Prod.mk.inj yx
   rw [hs] at say
   have cut2:=List.drop_eq_getElem_cons (l:=List.range (min us.size vs.size)) (i:=i) (by simpa using here)
   rw [List.getElem_range] at cut2
   rw [cut2,ltFrom] at say
   have two:=pair i k1 k2
   refine wpAny_bind (two.1 prog w _ _ ?_)
   cases like:e i with
   | true =>
    rw [like,if_pos rfl] at say
    wp_walk
    exact ⟨rfl,rfl,i+1,tail,by rw [hs];exact say⟩
   | false =>
    rw [like,if_neg Bool.false_ne_true] at say
    refine wpAny_bind (wpAny_rule (wpAny_bind (two.2 like prog w _ _ ?_)))
    wp_walk
    exact ⟨_,rfl,say⟩
  case fin =>
   rintro ⟨got,_⟩ now ⟨none',rfl,i,at',say⟩
   cases none'
   have past:min us.size vs.size<=i:=by
    rw [← len]
    exact List.drop_eq_nil_iff.mp at'.symm
   rw [hs] at say
   rw [List.drop_eq_nil_of_le (by simpa using past),ltFrom] at say
   wp_walk
   exact ⟨_,rfl,by simpa [Builtin.Tuple.tupleCompareSizes] using say⟩
  case h=>exact ⟨rfl,rfl,0,rfl,by rw [hs];exact told⟩
theorem RcLtAt.tuples {A:Around}{s:Shared}{u v:Addr}{us vs:Array Value}{e lt:Nat->Bool} (hu:s.heap.IsTuple u us) (hv:s.heap.IsTuple v vs) (room:A.units < cLine)
  (pair:∀ j (h1:j < us.size) (h2:j < vs.size),EqAt A.in1 s us[j] vs[j] (e j)/\(e j=false->RcLtAt A.in1 s us[j] vs[j] (lt j))):RcLtAt A s (.ref u) (.ref v) (ltFrom e lt (decide (us.size < vs.size)) (List.range (min us.size vs.size))):=by
 obtain ⟨⟨_,du,_,ku⟩,gu,rfl,p,rfl⟩:=hu
 obtain ⟨⟨_,dv,_,kv⟩,gv,rfl,q,rfl⟩:=hv
 exact fun prog w E Q h=>richCompare_meets_room (op:=.Lt) ⟨_,gu,rfl⟩ ⟨_,gv,rfl⟩ F.slot_tuple_lt F.entry_tuple_lt (F.args_tuple_lt_2 _ _) (n7' u v us vs p q du dv ku kv e lt) ⟨⟨gu,gv⟩,pair,Value.noConfusion,h⟩ room
theorem RcLtAt.int_int {A:Around}{s:Shared} (a:Int) (t:Tok) (b:Int) (u:Tok):RcLtAt A s (.int a t) (.int b u) (decide (a < b)):=fun prog w E Q h=>PyProof.Rows.lt_int h
end PySem.SeqAt
namespace DL
open PySem PySem.Spec PyProof.Rows L2
section
variable {X:Cx}{B:BB}{a b c e:Expr}{es:List Expr}{pos:Pos}
def rngV (n:Nat):List V:=(List.range n).map fun (k:Nat)=>V.int (0+(k:Int))
theorem jo':∀ {xs:List V}{us:List Value},xs.length=us.length->(∀ (i:Nat) x u,xs[i]?=some x->us[i]?=some u->RelV x u)->Vals xs us
 | [],[],_,_=>.nil
 | [],_::_,h,_=>by cases h
 | _::_,[],h,_=>by cases h
 | x::xs,u::us,h,k=>.cons (k 0 x u rfl rfl) (jo' (Nat.succ.inj h) fun i y v e f=>k (i+1) y v e f)
theorem ll' {ta:TA}{p p2 pos2:Pos} (hc:X.calm=true) (hl:Gl X "list") (hml:X.mg "list"=none) (hg:Gl X "range") (hm:X.mg "range"=none) (ha:PA X [a] ta)
  (hs:starEach [a] X.env=[(false,eval a X.env)]:=by rfl) (hs2:starEach [.Call (.Name "range" p2) [a] [] pos2] X.env=[(false,eval (.Call (.Name "range" p2) [a] [] pos2) X.env)]:=by rfl) :
  PE X (.Call (.Name "list" p) [.Call (.Name "range" p2) [a] [] pos2] [] pos) (fun σ H Q=>ta σ H fun vs H1=>∃ j:Int,vs=[.int j]/\-1000000<=j/\j<=1000000/\∀ l,H1 l=none->Q (.ref l) (upd H1 l (.lst (rngV j.toNat)))):=by
 intro pins s σ H Q I h
 refine Call_ (cQ' I hl hml boot_list (PyProof.Rows.callWith_type1 ?_ hs2 rfl))
 rw [hs2]
 refine Calls.spliced_cons (Call_ (cQ' I hg hm boot_range (PyProof.Rows.callWith_type1 (thn (ha pos2 pins s σ H _ I h) fun us s1 ⟨vs,H1,I1,r1,q1⟩=>?_) hs rfl)))
 obtain ⟨j,rfl,q1,q2,q⟩:=q1
 obtain ⟨u,rfl,t,rfl⟩:=vals1 r1
 refine call_range_1 (Calls.spliced_nil ?_)
 have size:Builtin.Range.rangeSize 0 j 1=j.toNat:=by rw [rangeSize_one];split<;>omega
 refine call_list_range (I1.ok.hd hc) (IsRange.new ..) (small_one (by decide) (by decide) (by omega) (by omega)) size (by omega) fun g tk acc c' keep at' items=>?_
 refine ⟨.ref _,_,I1.laid (t':=tk) (fun b o e=>keep b o (Heap.get?_push_of_some _ e)) ?_ (o:=.lst (rngV j.toNat)) ⟨?_,acc.toList,c',?_,at'⟩,rfl,q _ ?_⟩
 ·exact Nat.le_of_lt (by show _ < (Heap.push _ _).objs.size;rw [Heap.size_push];exact Nat.lt_succ_self _)
 ·show (rngV j.toNat).length<=sizeLine
  rw [rngV,List.length_map,List.length_range,sizeLine_eq];omega
 ·refine jo' (by rw [rngV,List.length_map,List.length_range,Array.length_toList,items.1]) fun i x u e f=>?_
  rw [Array.getElem?_toList] at f
  obtain ⟨t',rfl⟩:=items.2 i u f
  obtain ⟨k,e1,rfl⟩:=getMap e
  obtain ⟨k1,k2⟩:=List.getElem?_eq_some_iff.mp e1
  rw [List.getElem_range] at k2
  subst k2
  exact ⟨t',by simp⟩
 ·refine I1.hok.fresh (Nat.le_of_lt ?_)
  show _ < (Heap.push _ _).objs.size
  rw [Heap.size_push];exact Nat.lt_succ_self _
theorem r1' {K:PySem.W.Frag}{I:Hp} (n:Nat):IsA K I (rngD 0 n) (rngV n):=by
 unfold rngD rngV
 induction List.range n with
 | nil=>exact IsA.nil
 | cons k ks ih=>exact IsA.cons (Is.int _) ih
theorem gP' {p p2 pos2:Pos}{t:M (List D)} (hc:X.calm=true) (hl:Gl X "list") (hml:X.mg "list"=none) (hg:Gl X "range") (hm:X.mg "range"=none) (ha:AD X B [a] t)
  (hs:starEach [a] X.env=[(false,eval a X.env)]:=by rfl) (hs2:starEach [.Call (.Name "range" p2) [a] [] pos2] X.env=[(false,eval (.Call (.Name "range" p2) [a] [] pos2) X.env)]:=by rfl) :
  EO X B (.Call (.Name "list" p) [.Call (.Name "range" p2) [a] [] pos2] [] pos) (fn1 rngI1 t):=PE.imp (ll' hc hl hml hg hm ha hs hs2) fun σ H Q q=>by
 obtain ⟨G,I,Γ,ds,Γ',r,e1,k⟩:=q
 obtain ⟨d,Γ1,e2,e3⟩:=ai' e1
 obtain ⟨e4,rfl⟩:=ay' e3
 obtain ⟨j,rfl,⟨h1,h2⟩,rfl⟩:=j1' e4
 refine ⟨G,I,Γ,_,_,r,e2,fun vs H1 I1 r1 g1 hd=>?_⟩
 obtain ⟨x,rfl,hx⟩:=hd.one
 exact ⟨j,by rw [ar' hx],h1,h2,fun l hl=>(k.after g1).new r1 hl (r1' _)⟩
end
section
variable {prog:Program}{w:World}{A:Around}{E:Value->Shared->Prop}{s:Shared}
def SlotAt (P:Nat->Value->Prop) (bt:Nat->Nat->Bool) (j:Nat) (cells:Array Value):Prop:=match j with
 | 0=>cells=#[]
 | j+1=>∃ b,cells=#[b,b]/\P (argBest bt j) b
theorem qK' {it S:Addr}{fp wr:List Addr}{n:Nat}{P:Nat->Value->Prop}{St:Nat->Heap->Prop}{bt:Nat->Nat->Bool}{Fit:Shared->Prop}{out:Result->Shared->Prop} (W:Walks prog w A.in1 it fp wr n P St) (away:S∉fp)
  (less:∀ s,Fit s->∀ i j vi vj,P i vi->P j vj->PySem.SeqAt.RcLtAt A.in1 s vi vj (bt i j)) (stay:∀ s h' tk,Fit s->(∀ b o,b∉wr->b≠S->s.heap.get? b=some o->h'.get? b=some o)->Fit { s with heap:=h',toks:=tk })
  (some':0 < n) (fin:∀ v s,P (argBest bt (n - 1)) v->Fit s->out (.ok (.ret v)) s):∀ (left:Nat) (s:Shared) (cells:Array Value) (c j:Nat),j+left=n->St j s.heap->Fit s->SlotAt P bt j cells->s.heap.get? S=some { cls:=.type "list", dict:=none,data:=.seq cells c,slots:=#[] } →
   codeAny (model prog w) A (.builtin "min.loop" ⟨[.ref it,.none,.ref S],[]⟩) out s:=by
 have apart:S∉wr:=fun h=>away (W.sub _ h)
 have spare:∀ {g:Heap}{f:Obj->Obj}{b:Addr}{o:Obj},b≠S->g.get? b=some o->(g.update S f).get? b=some o:=fun ne e=>(Heap.get?_update_other _ _ (Ne.symm ne)).trans e
 have loop:(toString "min"++toString ".loop":String) = "min.loop":=by decide
 intro left
 induction left with
 | zero =>
  intro s cells c j len st fit held slot
  obtain ⟨m,rfl⟩:∃ m,j=m+1:=⟨j - 1,by omega⟩
  obtain ⟨b,rfl,best⟩:=held
  refine codeAny_builtin F.entry_min_loop ?_
  rw [Around.under_plainId F.plain_min_loop _]
  refine wpAny_bind (m:=seqItems? (.ref S)) (wpAny_seqItems slot rfl (wpAny_bind (m:=tryCatch (pyNext (.ref it)) _) (wpAny_tryCatch (W.done s _ _ (len▸st) fun g tk kk=>?_))))
  refine wpAny_bind (m:=updateSeq S fun _=>#[]) (wpAny_updateSeq (kk S _ apart slot) rfl (wpAny_bind (wpAny_letGo (wpAny_pure (fin b _ (by rw [← len];exact best) (stay s _ tk fit fun x o n1 n2 e=>spare n2 (kk x o n1 e)))))))
 | succ left ih =>
  intro s cells c j len st fit held slot
  refine codeAny_builtin F.entry_min_loop ?_
  rw [Around.under_plainId F.plain_min_loop _]
  refine wpAny_bind (m:=seqItems? (.ref S)) (wpAny_seqItems slot rfl (wpAny_bind (m:=tryCatch (pyNext (.ref it)) _) (wpAny_tryCatch (W.item j s _ _ (by omega) st fun v g tk isV st1 kk=>?_))))
  have slot1:=kk S _ apart slot
  have fit1:=stay s g tk fit fun x o n1 _ e=>kk x o n1 e
  have next:∀ (f:Obj->Obj) (cells':Array Value) (c':Nat),(g.update S f).get? S=some { cls:=.type "list", dict:=none,data:=.seq cells' c',slots:=#[] }->SlotAt P bt (j+1) cells' →
    codeAny (model prog w) A (.builtin "min.loop" ⟨[.ref it,.none,.ref S],[]⟩) out { s with heap:=g.update S f,toks:=tk }:=fun f cells' c' here is =>
   ih _ cells' c' (j+1) (by omega) (W.frame _ _ _ st1 fun b hb o e=>spare (fun z=>away (z▸hb)) e) (stay { s with heap:=g,toks:=tk } _ tk fit1 fun x o _ n2 e=>spare n2 e) is here
  cases j with
  | zero =>
   cases held
   refine wpAny_bind (m:=updateSeq S fun _=>#[v,v]) (wpAny_updateSeq slot1 rfl ?_)
   rw [loop]
   exact wpAny_pure ⟨plainId_quiet F.plain_min_loop _,next _ _ _ (Heap.get?_update_self _ slot1 rfl) ⟨v,rfl,isV⟩⟩
  | succ m =>
   obtain ⟨b,rfl,best⟩:=held
   refine wpAny_bind (m:=tryCatch (holding [v,v] (richCompare .Lt v b >>= _)) _) (wpAny_tryCatch (wpAny_holding (wpAny_bind (less _ fit1 (m+1) (argBest bt m) v b isV best prog w _ _ (wpAny_bind (wpAny_holding (wpAny_truthy_bool (wpAny_bind (wpAny_letGo (wpAny_pure ?_))))))))))
   cases hb:bt (m+1) (argBest bt m) with
   | true =>
    rw [if_pos rfl]
    refine wpAny_bind (wpAny_updateSeq slot1 rfl (wpAny_bind (wpAny_letGo ?_)))
    rw [loop]
    exact wpAny_pure ⟨plainId_quiet F.plain_min_loop _,next _ _ _ (Heap.get?_update_self _ slot1 rfl) ⟨v,rfl,by rw [argBest,hb];exact isV⟩⟩
   | false =>
    rw [if_neg Bool.false_ne_true]
    refine wpAny_bind (wpAny_letGo ?_)
    rw [loop]
    exact wpAny_pure ⟨plainId_quiet F.plain_min_loop _,ih _ _ c (m+2) (by omega) st1 fit1 ⟨b,rfl,by rw [argBest,hb];exact best⟩ slot1⟩
theorem iM' (bt:Nat->Nat->Bool):∀ k,argBest bt k<=k
 | 0=>Nat.le_refl _
 | k+1=>by
  rw [argBest]
  split
  ·exact Nat.le_refl _
  ·exact Nat.le_succ_of_le (iM' bt k)
theorem qL' {p:Addr}{items:Array Value}{bt:Nat->Nat->Bool}{Q:Value->Shared->Prop} (hh:A.handled=none) (L:s.heap.IsList p items) (some':0 < items.size)
  (less:∀ h' tk,(∀ b o,s.heap.get? b=some o->h'.get? b=some o)->∀ i j vi vj,items[i]?=some vi->items[j]?=some vj->PySem.SeqAt.RcLtAt A.in1 { s with heap:=h',toks:=tk } vi vj (bt i j))
  (fin:∀ v h' tk,items[argBest bt (items.size - 1)]?=some v->(∀ b o,s.heap.get? b=some o->h'.get? b=some o)->Q v { s with heap:=h',toks:=tk }):wpAny (model prog w) A (call (.builtin "min") [.ref p]) Q E s:=by
 have low:p < s.heap.objs.size:=by obtain ⟨_,e,_⟩:=L;exact Heap.lt_size e
 refine call_function_tree F.kind_min F.plain_min F.entry_min (F.args_min1 _) ?_
 refine wpAny_bind (wpAny_of_eq (a:=[none,none]) rfl (wpAny_bind (wpAny_pure (wpAny_bind (wpAny_pyIter_list L (wpAny_bind (wpAny_newObj_type ?_)))))))
 have loop:(toString "min"++toString ".loop":String) = "min.loop":=by decide
 rw [loop]
 have W:=Walks.list (prog:=prog) (w:=w) (A:=A.in1) hh s.heap.objs.size p (Nat.ne_of_lt low) items
 have size1:∀ o:Obj,(s.heap.push o).objs.size=s.heap.objs.size+1:=fun o=>Heap.size_push ..
 refine wpAny_pure ⟨plainId_quiet F.plain_min_loop _,qK' (Fit:=fun s'=>∃ h' tk,s'={ s with heap:=h',toks:=tk }/\∀ b o,s.heap.get? b=some o->h'.get? b=some o) (bt:=bt) W ?_ ?_ ?_ some' ?_ items.size _ #[] 0 0 (Nat.zero_add _) ⟨⟨_,Heap.get?_push_of_some _ (Heap.get?_push_size _ rfl),rfl,rfl⟩,(L.push _).push _⟩ ⟨_,_,rfl,fun b o e=>Heap.get?_push_of_some _ (Heap.get?_push_of_some _ e)⟩ rfl (Heap.get?_push_size _ rfl)⟩
 ·rw [size1]
  intro z
  rw [List.mem_cons,List.mem_singleton] at z
  rcases z with z | z
  ·exact absurd z (Nat.succ_ne_self _)
  ·exact absurd z (Nat.ne_of_gt (Nat.lt_succ_of_lt low))
 ·rintro _ ⟨g,tk,rfl,keep⟩ i j vi vj hi hj
  exact less g tk keep i j vi vj hi hj
 ·rintro _ h' tk ⟨g,tk',rfl,keep⟩ k
  refine ⟨h',tk,rfl,fun b o e=>k b o (fun z=>?_) (fun z=>?_) (keep b o e)⟩
  ·rw [List.mem_singleton] at z
   exact Nat.ne_of_lt (Heap.lt_size e) z
  ·rw [size1] at z
   have:=Heap.lt_size e
   rw [z] at this
   exact absurd this (Nat.not_lt.mpr (Nat.le_succ _))
 ·rintro v _ hv ⟨g,tk,rfl,keep⟩
  exact fin v g tk hv keep
end
section
variable {X:Cx}{B:BB}{a b c e:Expr}{es:List Expr}{pos:Pos}{kr:Nat}
def prD (p:Int×Int):D:=.tup [.int p.1,.int p.2]
def ltP (p q:Int×Int):Bool:=if p.1 == q.1 then decide (p.2 < q.2) else decide (p.1 < q.1)
def prsD:List D->Option (List (Int×Int))
 | []=>some []
 | .tup [.int a,.int b]::ds=>match prsD ds with
  | some ps=>some ((a,b)::ps)
  | none=>none
 | _=>none
theorem qM':∀ (ds:List D) (ps:List (Int×Int)),prsD ds=some ps->ds=ps.map prD:=by
 intro ds
 fun_induction prsD ds with
 | case1=>intro ps h;cases h;rfl
 | case2 a b ds qs e ih=>intro ps h;cases h;rw [ih qs e];rfl
 | case3 a b ds e ih=>intro ps h;cases h
 | case4 ds=>intro ps h;cases h
def btP (ps:List (Int×Int)) (i j:Nat):Bool:=ltP (ps.getD i (0,0)) (ps.getD j (0,0))
def minP (ps:List (Int×Int)):Int×Int:=ps.getD (argBest (btP ps) (ps.length - 1)) (0,0)
open PySem.SeqAt in
theorem r2' {A:Around}{s:Shared}{u v:Addr}{p q:Int×Int}{t1 t2 t3 t4:Tok} (room:A.units < cLine) (hu:s.heap.IsTuple u #[.int p.1 t1,.int p.2 t2]) (hv:s.heap.IsTuple v #[.int q.1 t3,.int q.2 t4]):RcLtAt A s (.ref u) (.ref v) (ltP p q):=by
 have:=RcLtAt.tuples (e:=fun k=>if k=0 then p.1 == q.1 else p.2 == q.2) (lt:=fun k=>if k=0 then decide (p.1 < q.1) else decide (p.2 < q.2)) hu hv room (fun j h1 h2=>?_)
 ·have e:ltFrom (fun k=>if k=0 then p.1 == q.1 else p.2 == q.2) (fun k=>if k=0 then decide (p.1 < q.1) else decide (p.2 < q.2)) (decide (2 < 2)) [0,1]=ltP p q:=by
   simp only [ltFrom,ltP]
   by_cases z:p.1=q.1
   ·by_cases z2:p.2=q.2<;>simp [z,z2]
   ·simp [z]
  rw [← e]
  exact this
 ·match j,h1,h2 with
  | 0,_,_=>exact ⟨EqAt.int_int _ _ _ _,fun _=>RcLtAt.int_int _ _ _ _⟩
  | 1,_,_=>exact ⟨EqAt.int_int _ _ _ _,fun _=>RcLtAt.int_int _ _ _ _⟩
  | k+2,h,_=>exact absurd h (by simp)
theorem pq' (hc:X.calm=true) (hu:X.A.units+100 < cLine):CallR X (.builtin "min") (fun xs H Q=>∃ (p:Addr) (zs:List V) (ps:List (Int×Int)),xs=[.ref p]/\SqL X.K H p zs/\ps≠[]/\zs.length=ps.length ∧
  (∀ (i:Nat) z,zs[i]?=some z->∃ q,z=.ref q/\SqT X.K H q [.int (ps.getD i (0,0)).1,.int (ps.getD i (0,0)).2])/\∀ z,zs[argBest (btP ps) (ps.length - 1)]?=some z->Q z H):=by
 intro pins s σ H xs us Q I r h
 obtain ⟨p,zs,ps,rfl,hq,ne,len,each,q⟩:=h
 obtain ⟨u,rfl,ru⟩:=vals1 r
 cases ru
 obtain ⟨its,rv,t,hz⟩:=I.list hq
 have ln:=rv.length
 have sz:its.toArray.size=ps.length:=by rw [List.size_toArray,← ln,len]
 have tup:∀ i v,its.toArray[i]?=some v->∃ q t1 t2,v=.ref q/\s.heap.IsTuple q #[.int (ps.getD i (0,0)).1 t1,.int (ps.getD i (0,0)).2 t2]:=fun i v hv=>by
  have hv':its[i]?=some v:=by simpa using hv
  have hi:i < zs.length:=by rw [ln];exact (List.getElem?_eq_some_iff.mp hv').1
  obtain ⟨q,e1,e2⟩:=each i zs[i] (List.getElem?_eq_getElem hi)
  obtain ⟨w,e3,e4⟩:=rv.get (List.getElem?_eq_getElem hi)
  rw [hv'] at e3
  cases e3
  rw [e1] at e4
  cases e4
  obtain ⟨jts,r2,t2,_⟩:=I.tuple e2
  obtain ⟨u1,u2,rfl,⟨k1,rfl⟩,⟨k2,rfl⟩⟩:=r2.two
  exact ⟨q,k1,k2,rfl,t2⟩
 refine qL' (bt:=btP ps) (I.ok.hd hc) t.isList (by rw [sz];exact List.length_pos_iff.mpr ne) (fun g tk keep i j vi vj hi hj=>?_) fun v g tk hv keep=>?_
 ·obtain ⟨q1,t1,t2,rfl,T1⟩:=tup i vi hi
  obtain ⟨q2,t3,t4,rfl,T2⟩:=tup j vj hj
  have up:∀ {q:Addr}{us:Array Value},s.heap.IsTuple q us->g.IsTuple q us:=fun T=>by obtain ⟨o,e,r⟩:=T;exact ⟨o,keep _ o e,r⟩
  exact r2' (by show X.A.units+1 < cLine;omega) (up T1) (up T2)
 ·rw [sz] at hv
  have hv':its[argBest (btP ps) (ps.length - 1)]?=some v:=by simpa using hv
  have hi:argBest (btP ps) (ps.length - 1) < zs.length:=by rw [ln];exact (List.getElem?_eq_some_iff.mp hv').1
  obtain ⟨w,e3,e4⟩:=rv.get (List.getElem?_eq_getElem hi)
  rw [hv'] at e3
  cases e3
  exact ⟨_,H,I.kept keep,e4,q _ (List.getElem?_eq_getElem hi)⟩
def minlF (ds:List D):Option D:=match ds with
 | [.lst xs]=>match prsD xs with
  | some (p::ps)=>some (prD (minP (p::ps)))
  | _=>none
 | _=>none
theorem r3' {p:Pos}{t:M (List D)} (hc:X.calm=true) (hr:Room kr X.A) (hg:Gl X "min") (hm:X.mg "min"=none) (ha:AD X B [e] t) (he:starEach [e] X.env=(false,eval e X.env)::starEach [] X.env:=by rfl) (hpl:(backTo pos (starEach [] X.env)).any (·.1)=false:=by rfl) :
  ED X B (.Call (.Name "min" p) [e] [] pos) (fn1 minlF t):=f1' (pq' hc (hu100 hr)) (fun ds d e B G I H σ Γ xs Q r h k=>by
 unfold minlF at e
 split at e
 ·split at e
  ·rename_i p1 ps eb
   cases e
   have:=qM' _ _ eb
   subst this
   obtain ⟨x,rfl,hx⟩:=h.one
   obtain ⟨q,zs,rfl,h3,h4⟩:=aJ' hx
   have L:=h4.length
   rw [List.length_map] at L
   have pick:∀ (i:Nat) z,zs[i]?=some z->Is X.K I (prD ((p1::ps).getD i (0,0))) z:=fun i z hz=>by
    have hi:i < (p1::ps).length:=by rw [L];exact (List.getElem?_eq_some_iff.mp hz).1
    obtain ⟨z',e1,e2⟩:=h4.get (i:=i) (d:=prD (p1::ps)[i]) (by rw [List.getElem?_map,List.getElem?_eq_getElem hi];rfl)
    rw [hz] at e1
    cases e1
    rw [List.getD_eq_getElem?_getD,List.getElem?_eq_getElem hi]
    exact e2
   refine ⟨q,zs,p1::ps,rfl,(Same.rdK r.iH h3).sq,by simp,L.symm,fun i z hz=>?_,fun z hz=>k.now r (pick _ z hz)⟩
   obtain ⟨q2,ys,rfl,e1,e2⟩:=aD' (pick i z hz)
   obtain ⟨y1,y2,rfl,f1,f2⟩:=e2.two
   rw [ar' f1,ar' f2] at e1
   exact ⟨q2,rfl,Same.sqT r.iH e1⟩
  ·cases e
 ·cases e) hg hm boot_min ha (by decide) (by decide) he hpl
end
end DL
namespace DL
open PySem PySem.W PyProof.Rows
structure Ord (lt:Nat->Nat->Bool):Prop where
 as:∀ a b,lt a b=true->lt b a=false
 tr:∀ a b c,lt b a=false->lt c b=false->lt c a=false
section
variable {n:Nat}{lt:Nat->Nat->Bool}{s:Shared}
def askIn (n:Nat) (lt:Nat->Nat->Bool):Nat->Nat->(Bool->Shared->Prop)->Shared->Prop:=fun i j C s=>i < n/\j < n/\C (lt i j) s
def gt (p:Array Nat) (i:Nat):Nat:=p.getD i 0
def Pm (n:Nat) (p:Array Nat):Prop:=p.Perm (List.range n).toArray
def Dn (lt:Nat->Nat->Bool) (p:Array Nat) (m:Nat):Prop:=∀ i j,i < j->j < m->lt (gt p i) (gt p j)=false
def Up (lt:Nat->Nat->Bool) (p:Array Nat) (m:Nat):Prop:=∀ i j,i < j->j < m->lt (gt p j) (gt p i)=false
def Eqs (lt:Nat->Nat->Bool) (p:Array Nat) (a b:Nat):Prop:=∀ i j,a<=i->i < b->a<=j->j < b->lt (gt p i) (gt p j)=false
theorem Pm.size {p:Array Nat} (h:Pm n p):p.size=n:=by
 have:=h.size_eq
 simpa using this
theorem Pm.bd {p:Array Nat} (h:Pm n p) (pos:0 < n) (i:Nat):gt p i < n:=by
 unfold gt
 by_cases hi:i < p.size
 ·have:p[i]∈(List.range n).toArray:=h.mem_iff.mp (Array.getElem_mem hi)
  rw [Array.getD,dif_pos hi]
  simpa using this
 ·rw [Array.getD,dif_neg hi]
  exact pos
theorem iN' {p:Array Nat}{i:Nat}:gt p i=p[i]?.getD 0:=by
 unfold gt
 exact Array.getD_eq_getD_getElem? ..
theorem eA' {p:Array Nat}{i j:Nat} (hj:j<=p.size) (k:Nat):gt (kas_rev p i j) k=if i<=k/\k < j then gt p (i+j - 1 - k) else gt p k:=by
 rw [iN',iN',iN']
 unfold kas_rev
 rw [getElem?_mirror_all hj]
 split<;>rfl
theorem pr' {p:Array Nat}{src d:Nat} (hs:src < p.size) (hd:d<=src) (k:Nat):gt (bubble p src d) k=if k=src - d then gt p src else if src - d < k/\k<=src then gt p (k - 1) else gt p k:=by
 simp only [iN']
 rw [getElem?_bubble hs d hd]
 split
 ·rfl
 ·split<;>rfl
theorem Pm.rev {p:Array Nat} (h:Pm n p) (i j:Nat):Pm n (kas_rev p i j):=Array.Perm.trans (mirror_perm _ _ _ _) h
theorem gg' {α:Type}{cmp:Nat->Nat->(Bool->Shared->Prop)->Shared->Prop}{Q:α->Shared->Prop}{P:α->Prop} (hc:∀ i j C,i < n->j < n->C (lt i j) s->cmp i j C s) (hq:∀ a,P a->Q a s):∀ t:KasT α,t.kasWp (askIn n lt) (fun a _=>P a) s->t.kasWp cmp Q s
 | .ret a,h=>hq a h
 | .ask i j k,⟨h1,h2,h3⟩=>hc i j _ h1 h2 (gg' hc hq (k (lt i j)) h3)
theorem gQ' {α β:Type}{t:KasT α}{f:α->KasT β}{P:α->Prop}{Q:β->Prop} (h:t.kasWp (askIn n lt) (fun a _=>P a) s) (k:∀ a,P a->(f a).kasWp (askIn n lt) (fun b _=>Q b) s):(t.bind f).kasWp (askIn n lt) (fun b _=>Q b) s:=by
 rw [KasT.kasWp_bind]
 exact gg' (fun i j C h1 h2 h3=>⟨h1,h2,h3⟩) (fun a ha=>k a ha) t h
variable (O:Ord lt) (two:2<=n)
include O
theorem Ord.irr (a:Nat):lt a a=false:=by
 cases h:lt a a with
 | false=>rfl
 | true=>rw [← h];exact O.as a a h
theorem Ord.lt_le {a b c:Nat} (h1:lt a b=true) (h2:lt c b=false):lt a c=true:=by
 cases h:lt a c with
 | true=>rfl
 | false =>
  -- c<=a,b<=c
  have:=O.tr b c a h2 h
  rw [this] at h1;cases h1
include two
theorem lm' {p:Array Nat} (hp:Pm n p):∀ (f m:Nat),1<=m->(kas_asc p f m).kasWp (askIn n lt) (fun m' _=>m<=m'/\m'<=m+f/\(∀ k,m<=k->k < m'->lt (gt p k) (gt p (k - 1))=false)/\(m' < m+f->lt (gt p m') (gt p (m' - 1))=true)) s
 | 0,m,_=>by
  rw [kas_asc]
  exact ⟨Nat.le_refl _,Nat.le_refl _,fun k h1 h2=>by omega,fun h=>by omega⟩
 | f+1,m,hm=>by
  rw [kas_asc]
  refine ⟨hp.bd (by omega) m,hp.bd (by omega) (m - 1),?_⟩
  cases h:lt (p.getD m 0) (p.getD (m - 1) 0) with
  | true =>
   dsimp only;rw [if_pos rfl]
   exact ⟨Nat.le_refl _,by omega,fun k h1 h2=>by omega,fun _=>h⟩
  | false =>
   dsimp only;rw [if_neg Bool.false_ne_true]
   refine gg' (fun i j C h1 h2 h3=>⟨h1,h2,h3⟩) (fun m' h'=>?_) _ (lm' hp f (m+1) (by omega))
   obtain ⟨a1,a2,a3,a4⟩:=h'
   refine ⟨by omega,by omega,fun k h1 h2=>?_,fun h'=>a4 (by omega)⟩
   by_cases z:k=m
   ·rw [z];exact h
   ·exact a3 k (by omega) h2
omit two in
theorem Up.of_steps {p:Array Nat}{m m':Nat} (hm:Up lt p m) (st:∀ k,m<=k->k < m'->1<=k->lt (gt p k) (gt p (k - 1))=false):Up lt p m':=by
 intro i j
 induction j with
 | zero=>intro h;omega
 | succ j ih =>
  intro hij hj
  by_cases z:j+1 < m
  ·exact hm i (j+1) hij z
  ·have s1:=st (j+1) (by omega) hj (by omega)
   rw [Nat.add_sub_cancel] at s1
   by_cases e:i=j
   ·rw [e];exact s1
   ·exact O.tr _ _ _ (ih (by omega) (by omega)) s1
omit two O in
theorem Dn.up {p:Array Nat}{m:Nat} (hm:m<=p.size) (h:Dn lt p m):Up lt (kas_rev p 0 m) m:=by
 intro i j hij hj
 rw [eA' hm,eA' hm,if_pos ⟨Nat.zero_le _,hj⟩,if_pos ⟨Nat.zero_le _,by omega⟩]
 exact h _ _ (by omega) (by omega)
omit two O in
theorem Dn.turn {p:Array Nat}{m a:Nat} (hm:m<=p.size) (h:Dn lt p m) (e:Eqs lt p a m):Dn lt (kas_rev p a m) m:=by
 intro i j hij hj
 rw [eA' hm,eA' hm]
 by_cases h1:a<=i
 ·rw [if_pos ⟨h1,by omega⟩,if_pos ⟨by omega,hj⟩]
  exact e _ _ (by omega) (by omega) (by omega) (by omega)
 ·rw [if_neg (by omega)]
  by_cases h2:a<=j
  ·rw [if_pos ⟨h2,hj⟩]
   exact h _ _ (by omega) (by omega)
  ·rw [if_neg (by omega)]
   exact h _ _ hij hj
omit two in
theorem Dn.next {p:Array Nat}{m:Nat} (h:Dn lt p m) (hm:1<=m) (st:lt (gt p (m - 1)) (gt p m)=false):Dn lt p (m+1):=by
 intro i j hij hj
 by_cases z:j < m
 ·exact h i j hij z
 ·have:j=m:=by omega
  subst this
  by_cases e:i=j - 1
  ·rw [e];exact st
  ·exact O.tr _ _ _ st (h i (j - 1) (by omega) (by omega))
theorem hL':∀ (f:Nat) (p:Array Nat) (m q:Nat),Pm n p->1<=m->m+f<=n->q < m->Dn lt p m->Eqs lt p (m - (q+1)) m →
  (kas_desc f p m q).kasWp (askIn n lt) (fun r _=>Pm n r.1/\1<=r.2.1/\r.2.1<=n/\r.2.2 < r.2.1/\Dn lt r.1 r.2.1/\Eqs lt r.1 (r.2.1 - (r.2.2+1)) r.2.1) s
 | 0,p,m,q,hp,h1,h2,h3,h4,h5=>by
  rw [kas_desc]
  exact ⟨hp,h1,(by show m<=n;omega),h3,h4,h5⟩
 | f+1,p,m,q,hp,h1,h2,h3,h4,h5=>by
  rw [kas_desc]
  have one:∀ (p':Array Nat),Pm n p'->Eqs lt p' (m+1 - (0+1)) (m+1):=fun p' _ i j a b c d=>by
   have:i=m:=by omega
   have:j=m:=by omega
   subst i;subst j
   exact O.irr _
  refine ⟨hp.bd (by omega) m,hp.bd (by omega) (m - 1),?_⟩
  cases h:lt (p.getD m 0) (p.getD (m - 1) 0) with
  | true =>
   dsimp only;rw [if_pos rfl]
   have st:lt (gt p (m - 1)) (gt p m)=false:=O.as _ _ h
   split
   ·have sz:m<=p.size:=by rw [hp.size];omega
    refine hL' f _ (m+1) 0 (hp.rev _ _) (by omega) (by omega) (by omega) (Dn.next O (h4.turn sz h5) h1 ?_) (one _ (hp.rev _ _))
    rw [eA' sz,eA' sz,if_pos ⟨by omega,by omega⟩,if_neg (by omega)]
    refine O.tr _ _ _ st ?_
    exact h5 _ _ (by omega) (by omega) (by omega) (by omega)
   ·exact hL' f _ (m+1) 0 hp (by omega) (by omega) (by omega) (Dn.next O h4 h1 st) (one _ hp)
  | false =>
   dsimp only;rw [if_neg Bool.false_ne_true]
   refine ⟨hp.bd (by omega) (m - 1),hp.bd (by omega) m,?_⟩
   cases h':lt (p.getD (m - 1) 0) (p.getD m 0) with
   | true =>
    dsimp only;rw [if_pos rfl]
    exact ⟨hp,h1,(by show m<=n;omega),h3,h4,h5⟩
   | false =>
    dsimp only;rw [if_neg Bool.false_ne_true]
    refine hL' f p (m+1) (q+1) hp (by omega) (by omega) (by omega) (Dn.next O h4 h1 h') fun i j a b c d=>?_
    have up:∀ i,m - (q+1)<=i->i < m->lt (gt p i) (gt p m)=false:=fun i x y=>O.tr _ _ _ h' (h5 i (m - 1) x y (by omega) (by omega))
    have dn:∀ i,m - (q+1)<=i->i < m->lt (gt p m) (gt p i)=false:=fun i x y=>O.tr _ _ _ (h5 (m - 1) i (by omega) (by omega) x y) h
    by_cases zi:i=m
    ·by_cases zj:j=m
     ·rw [zi,zj];exact O.irr _
     ·rw [zi];exact dn j (by omega) (by omega)
    ·by_cases zj:j=m
     ·rw [zj];exact up i (by omega) (by omega)
     ·exact h5 i j (by omega) (by omega) (by omega) (by omega)
theorem ni' {p:Array Nat}{m:Nat} (hp:Pm n p) (h1:1<=m) (h2:m<=n) (h:Dn lt p m):(kas_tail3 m n p).kasWp (askIn n lt) (fun r _=>1<=r.1/\r.1<=n/\Pm n r.2/\Up lt r.2 r.1) s:=by
 unfold kas_tail3
 refine gQ' (lm' O two (hp.rev 0 m) (n - m) m h1) fun m' ⟨a1,a2,a3,_⟩=>?_
 have up:=h.up (by rw [hp.size];exact h2)
 exact ⟨by omega,by omega,hp.rev 0 m,Up.of_steps O up fun k x y _=>a3 k x y⟩
theorem h3' {p:Array Nat}{m:Nat} (hp:Pm n p) (h1:1<=m) (h2:m < n) (h:Dn lt p (m+1)):(kas_descPart m n p).kasWp (askIn n lt) (fun r _=>1<=r.1/\r.1<=n/\Pm n r.2/\Up lt r.2 r.1) s:=by
 unfold kas_descPart
 refine gQ' (hL' O two (n - (m+1)) p (m+1) 0 hp (by omega) (by omega) (by omega) h fun i j a b c d=>?_) fun r ⟨b1,b2,b3,b4,b5,b6⟩=>?_
 ·have:i=m:=by omega
  have:j=m:=by omega
  subst i;subst j
  exact O.irr _
 ·split
  ·exact ni' O two (b1.rev _ _) b2 b3 (b5.turn (by rw [b1.size];exact b3) b6)
  ·exact ni' O two b1 b2 b3 b5
theorem qN' {p:Array Nat} (hp:Pm n p):(kas_count n p).kasWp (askIn n lt) (fun r _=>1<=r.1/\r.1<=n/\Pm n r.2/\Up lt r.2 r.1) s:=by
 unfold kas_count
 refine gQ' (lm' O two hp (n - 1) 1 (Nat.le_refl _)) fun m ⟨a1,a2,a3,a4⟩=>?_
 have up1:Up lt p m:=Up.of_steps O (m:=1) (fun i j x y=>by omega) fun k x y z=>a3 k x y
 split
 ·exact ⟨a1,by omega,hp,up1⟩
 ·rename_i ne
  have ne:m≠n:=by simpa using ne
  have last:=a4 (by omega)
  split
  ·refine ⟨hp.bd (by omega) 0,hp.bd (by omega) (m - 1),?_⟩
   cases h:lt (p.getD 0 0) (p.getD (m - 1) 0) with
   | true =>
    dsimp only;rw [if_pos rfl]
    exact ⟨a1,by omega,hp,up1⟩
   | false =>
    dsimp only;rw [if_neg Bool.false_ne_true]
    have all:Eqs lt p 0 m:=fun i j x1 x2 y1 y2=>by
     -- the first is not less than the last,and they rise
     have l0:∀ i,i < m->lt (gt p i) (gt p 0)=false:=fun i x=>by
      by_cases z:i=0
      ·rw [z];exact O.irr _
      ·exact up1 0 i (by omega) x
     have lz:∀ j,j < m->lt (gt p (m - 1)) (gt p j)=false:=fun j x=>by
      by_cases z:j=m - 1
      ·rw [z];exact O.irr _
      ·exact up1 j (m - 1) (by omega) (by omega)
     -- i against j: i<=last<=first<=j,whichever
     have f1:lt (gt p i) (gt p (m - 1))=false:=O.tr _ _ _ h (l0 i x2)
     exact O.tr _ _ _ (lz j y2) f1
    have sz:m<=p.size:=by rw [hp.size];omega
    have all2:Dn lt (kas_rev p 0 m) m:=Dn.turn sz (fun i j x y=>all i j (Nat.zero_le _) (by omega) (Nat.zero_le _) y) all
    refine h3' O two (hp.rev _ _) a1 (by omega) (Dn.next O all2 a1 ?_)
    rw [eA' sz,eA' sz,if_pos ⟨Nat.zero_le _,by omega⟩,if_neg (by omega)]
    refine O.tr _ _ _ (O.as _ _ last) ?_
    exact all _ _ (Nat.zero_le _) (by omega) (Nat.zero_le _) (by omega)
  ·have:m=1:=by omega
   subst this
   exact h3' O two hp (Nat.le_refl _) (by omega) (Dn.next O (fun i j x y=>by omega) (Nat.le_refl _) (O.as _ _ last))
theorem im' {p:Array Nat}{k:Nat} (hp:Pm n p) (hk:k < n) (up:Up lt p k):∀ (f l r:Nat),l<=r->r<=k->r - l<=f->(∀ i,i < l->lt (gt p k) (gt p i)=false)->(∀ i,r<=i->i < k->lt (gt p k) (gt p i)=true) →
  (kas_place p k f l r).kasWp (askIn n lt) (fun l' _=>l'<=k/\(∀ i,i < l'->lt (gt p k) (gt p i)=false)/\∀ i,l'<=i->i < k->lt (gt p k) (gt p i)=true) s
 | 0,l,r,h1,h2,h3,h4,h5=>by
  rw [kas_place]
  exact ⟨by omega,h4,fun i x y=>h5 i (by omega) y⟩
 | f+1,l,r,h1,h2,h3,h4,h5=>by
  rw [kas_place]
  split
  ·exact ⟨by omega,h4,fun i x y=>h5 i (by omega) y⟩
  ·refine ⟨hp.bd (by omega) k,hp.bd (by omega) _,?_⟩
   cases h:lt (p.getD k 0) (p.getD ((l+r) / 2) 0) with
   | true =>
    dsimp only;rw [if_pos rfl]
    refine im' hp hk up f l ((l+r) / 2) (by omega) (by omega) (by omega) h4 fun i x y=>?_
    by_cases z:i=(l+r) / 2
    ·rw [z];exact h
    ·exact O.lt_le h (up _ _ (by omega) y)
   | false =>
    dsimp only;rw [if_neg Bool.false_ne_true]
    refine im' hp hk up f ((l+r) / 2+1) r (by omega) (by omega) (by omega) (fun i x=>?_) h5
    by_cases z:i=(l+r) / 2
    ·rw [z];exact h
    ·exact O.tr _ _ _ (up i ((l+r) / 2) (by omega) (by omega)) h
theorem ps':∀ (f:Nat) (p:Array Nat) (k:Nat),Pm n p->Up lt p k->1<=k->k+f=n->(kas_bin f p k).kasWp (askIn n lt) (fun p' _=>Pm n p'/\Up lt p' n) s
 | 0,p,k,hp,up,h1,h2=>by
  rw [kas_bin]
  have:k=n:=by omega
  subst this
  exact ⟨hp,up⟩
 | f+1,p,k,hp,up,h1,h2=>by
  rw [kas_bin]
  refine gQ' (im' O two hp (by omega) up k 0 k (Nat.zero_le _) (Nat.le_refl _) (by omega) (fun i h=>by omega) fun i x y=>by omega) fun l ⟨c1,c2,c3⟩=>?_
  refine ps' f _ (k+1) (Array.Perm.trans (bubble_perm _ _ _) hp) (fun i j hij hj=>?_) (by omega) (by omega)
  have hk:k < p.size:=by rw [hp.size];omega
  rw [pr' hk (by omega),pr' hk (by omega),show k - (k - l)=l by omega]
  by_cases j1:j=l
  ·rw [if_pos j1,if_neg (by omega),if_neg (by omega)]
   exact c2 i (by omega)
  ·rw [if_neg j1]
   by_cases j2:l < j/\j<=k
   ·rw [if_pos j2]
    by_cases i1:i=l
    ·rw [if_pos i1]
     exact O.as _ _ (c3 (j - 1) (by omega) (by omega))
    ·rw [if_neg i1]
     by_cases i2:l < i/\i<=k
     ·rw [if_pos i2];exact up _ _ (by omega) (by omega)
     ·rw [if_neg i2];exact up _ _ (by omega) (by omega)
   ·rw [if_neg j2,if_neg (by omega),if_neg (by omega)]
    exact up _ _ hij (by omega)
theorem r4':(kas_sort n).kasWp (askIn n lt) (fun p _=>Pm n p/\Up lt p n) s:=by
 unfold kas_sort
 refine gQ' (qN' O two (p:=(List.range n).toArray) (Array.Perm.refl _)) fun r ⟨a1,a2,a3,a4⟩=>?_
 split
 ·refine ps' O two _ _ _ a3 ?_ (by omega) (by omega)
  rw [Nat.max_eq_left a1]
  exact a4
 ·have:r.1=n:=by omega
  rw [this] at a4
  exact ⟨a3,a4⟩
end
end DL
namespace DL
open PySem PySem.W PySem.Spec PyProof.Rows
section
variable {prog:Program}{w:World}{A:Around}{E:Value->Shared->Prop}{s:Shared}
def byP (vs:List Value) (p:Array Nat):List Value:=p.toList.map fun i=>vs.getD i Value.none
theorem pt' (vs:List Value):byP vs (List.range vs.length).toArray=vs:=by
 unfold byP
 refine List.ext_getElem (by simp) fun i h1 h2=>?_
 simp [h2]
theorem r5' {vs:List Value}{p:Array Nat} (h:Pm vs.length p):(byP vs p).length=vs.length:=by
 unfold byP
 rw [List.length_map,Array.length_toList,h.size]
def KeptBut (a:Addr) (h h':Heap):Prop:=∀ b o,b≠a->h.get? b=some o->h'.get? b=some o
theorem r6' {a:Addr}{vs:List Value}{e:Nat}{κ:SortKind}{lt:Nat->Nat->Bool}{P:PySem.Fin->Shared->Prop} (ho:s.heap.get? a=some (seqObj "list" vs.toArray e)) (h64:vs.length < 64) (O:Ord lt)
  (kind:∀ h' Q,KeptBut a s.heap h'->2<=vs.length->Q κ { s with heap:=h' }->wpAny (model prog w) A (keyKind' vs.toArray) Q E { s with heap:=h' })
  (less:∀ h' i j C,KeptBut a s.heap h'->i < vs.length->j < vs.length->C (lt i j) { s with heap:=h' }->wpAny (model prog w) A (keyLt' κ (vs.getD i Value.none) (vs.getD j Value.none)) C (fun _ _=>False) { s with heap:=h' })
  (fin:∀ p h' c,Pm vs.length p->Up lt p vs.length->KeptBut a s.heap h'->h'.get? a=some (seqObj "list" (byP vs p).toArray c)->P (.done (.ret .none)) { s with heap:=h' }) :
  wpAny (model prog w) A (Builtin.«list.sort» ⟨[.ref a],[]⟩) P E s:=by
 have line:64<=sizeLine:=by rw [sizeLine_eq];decide
 obtain ⟨g1,eg1⟩:∃ g1,g1=s.heap.update a (Obj.mapSeq fun _=>(#[]:Array Value)):=⟨_,rfl⟩
 obtain ⟨e1,o1⟩:∃ e1,g1.get? a=some (seqObj "list" #[] e1):=⟨_,by rw [eg1];exact get?_update_seq ho _⟩
 have k1:KeptBut a s.heap g1:=fun b o ne x=>by rw [eg1];exact (Heap.get?_update_other _ _ (Ne.symm ne)).trans x
 obtain ⟨g2,eg2⟩:∃ g2,g2=(g1.push (seqObj "tuple" vs.toArray 0)).push (seqObj "list" #[] 0):=⟨_,rfl⟩
 have o2:g2.get? a=some (seqObj "list" #[] e1):=by rw [eg2];exact Heap.get?_push_of_some _ (Heap.get?_push_of_some _ o1)
 have k2:KeptBut a s.heap g2:=fun b o ne x=>by rw [eg2];exact Heap.get?_push_of_some _ (Heap.get?_push_of_some _ (k1 b o ne x))
 have runs:∀ κ',(2<=vs.length->κ'=κ)->wpAny (model prog w) A ((if vs.toArray.size < 2 then pure () else sortRuns').run (SortSt.mk' κ' (vs.toArray.zip vs.toArray) #[] 7 none))
   (fun r s'=>s'={ s with heap:=g2 }/\∃ p,Pm vs.length p/\Up lt p vs.length/\(arrOf r.2).map (·.2)=(byP vs p).toArray/\failedOf r.2=none) E { s with heap:=g2 }:=fun κ' hκ=>by
  rcases Nat.lt_or_ge vs.length 2 with small | big
  ·rw [if_pos (by rw [List.size_toArray];exact small)]
   refine wpAny_pure ⟨rfl,(List.range vs.length).toArray,Array.Perm.refl _,fun i j x y=>by omega,?_,rfl⟩
   rw [pt']
   show ((vs.toArray.zip vs.toArray).map (·.2))=_
   refine Array.ext (by simp) fun i h1 h2=>by simp
  ·rw [if_neg (by rw [List.size_toArray];omega),hκ big]
   refine kat_run (ks:=vs) (vs:=vs) (G:=fun p s'=>(Pm vs.length p/\Up lt p vs.length)/\s'={ s with heap:=g2 }) (Q:=fun st s'=>s'={ s with heap:=g2 }/\∃ p,Pm vs.length p/\Up lt p vs.length/\(arrOf st).map (·.2)=(byP vs p).toArray/\failedOf st=none) rfl big h64 ?_ ?_
   ·rintro p st s' hz arr none' ⟨⟨hp,up⟩,rfl⟩
    exact ⟨rfl,p,hp,up,kat_snds rfl arr,none'⟩
   ·exact gg' (P:=fun p=>Pm vs.length p/\Up lt p vs.length) (fun i j C h1 h2 h3=>less g2 i j C k2 h1 h2 h3) (fun p hp=>⟨hp,rfl⟩) _ (r4' O big)
 rw [list_sort_plain]
 refine wpAny_bind (listItems_at ho rfl (wpAny_bind (listUpdate_at ho rfl ?_ (by rw [List.size_toArray];omega) (Nat.zero_le _))))
 rw [← eg1]
 refine wpAny_bind (seqEpoch_at o1 rfl (wpAny_bind (wpAny_newTuple (wpAny_bind (wpAny_newList (wpAny_holding ?_) (Nat.zero_le _))) (by show vs.length<=_;omega))))
 show wpAny (model prog w) A _ P E { s with heap:=(g1.push (seqObj "tuple" vs.toArray 0)).push (seqObj "list" #[] 0) }
 rw [← eg2]
 dsimp only
 rcases Nat.lt_or_ge vs.length 2 with small | big
 all_goals
  first
   | (rw [if_pos (by rw [List.size_toArray];exact small)];refine wpAny_bind (wpAny_pure ?_);have step:=runs general' fun h=>by omega)
   | (rw [if_neg (by rw [List.size_toArray];omega)];refine wpAny_bind (kind g2 _ k2 big ?_);have step:=runs κ fun _=>rfl)
  refine wpAny_bind (wpAny_mono step (fun r s' h=>?_) fun _ _ x=>x)
  obtain ⟨rfl,p,hp,up,arr,none'⟩:=h
  rw [arr,none']
  refine wpAny_bind (seqEpoch_at o2 rfl (wpAny_bind (listUpdate_at o2 rfl ?_ (Nat.zero_le _) ?_)))
  ·dsimp only
   rw [bne_self_eq_false,if_neg Bool.false_ne_true]
   exact wpAny_pure (fin p _ _ hp up (fun b o ne x=>(Heap.get?_update_other _ _ (Ne.symm ne)).trans (k2 b o ne x)) (get?_update_seq o2 fun _=>(byP vs p).toArray))
  ·show (byP vs p).toArray.size<=_
   rw [List.size_toArray,r5' hp]
   omega
theorem gR' {l:Addr}{vs:List Value}{κ:SortKind}{lt:Nat->Nat->Bool}{Q:Value->Shared->Prop} (h64:vs.length < 64) (O:Ord lt)
  (col:∀ Q':List Value->Shared->Prop,(∀ h' tk,(∀ b o,s.heap.get? b=some o->h'.get? b=some o)->s.heap.objs.size<=h'.objs.size->Q' vs { s with heap:=h',toks:=tk })->wpAny (model prog w) A.in1 (collect (.ref l)) Q' E s)
  (kind:∀ h' tk Q,(∀ b o,s.heap.get? b=some o->h'.get? b=some o)->2<=vs.length->Q κ { s with heap:=h',toks:=tk }->wpAny (model prog w) A.in1.in1 (keyKind' vs.toArray) Q (fun _ _=>False) { s with heap:=h',toks:=tk })
  (less:∀ h' tk i j C,(∀ b o,s.heap.get? b=some o->h'.get? b=some o)->i < vs.length->j < vs.length->C (lt i j) { s with heap:=h',toks:=tk }->wpAny (model prog w) A.in1.in1 (keyLt' κ (vs.getD i Value.none) (vs.getD j Value.none)) C (fun _ _=>False) { s with heap:=h',toks:=tk })
  (fin:∀ p h' tk D c,Pm vs.length p->Up lt p vs.length->(∀ b o,s.heap.get? b=some o->h'.get? b=some o)->s.heap.objs.size<=D->h'.get? D=some (seqObj "list" (byP vs p).toArray c)->Q (.ref D) { s with heap:=h',toks:=tk }) :
  wpAny (model prog w) A (call (.builtin "sorted") [Value.ref l]) Q E s:=by
 have line:64<=sizeLine:=by rw [sizeLine_eq];decide
 refine Calls.call_function_entry kind_sorted plain_sorted entry_sorted (args_sorted1 _) ?_;refine wpAny_bind (m:=checkCount "sorted" 1 1 _) (wpAny_pure (wpAny_bind (col _ fun g tk kg above=>wpAny_bind (wpAny_newList ?_ (by omega)))))
 have at':(g.push (seqObj "list" vs.toArray 0)).get? g.objs.size=some (seqObj "list" vs.toArray 0):=Heap.get?_push_size _ rfl
 have old:∀ (h':Heap),KeptBut g.objs.size (g.push (seqObj "list" vs.toArray 0)) h'->∀ b o,s.heap.get? b=some o->h'.get? b=some o:=fun h' k b o x =>
  k b o (Nat.ne_of_lt (Nat.lt_of_lt_of_le (Heap.lt_size x) above)) (Heap.get?_push_of_some _ (kg b o x))
 refine wpAny_bind (wpAny_holding (wpAny_call_entry PyProof.Rows.slot_list_sort ⟨_,at',rfl⟩ PyProof.Rows.entry_list_sort ?_ (args_list_sort _)))
 refine r6' (s:={ s with heap:=g.push (seqObj "list" vs.toArray 0),toks:=tk }) (lt:=lt) (κ:=κ) at' h64 O (fun h' Q' k two q=>wpAny_mono (kind h' tk Q' (old h' k) two q) (fun _ _ x=>x) fun _ _ x=>x.elim) (fun h' i j C k=>less h' tk i j C (old h' k)) fun p h' c hp up k here=>?_
 exact ⟨_,rfl,wpAny_pure ⟨_,rfl,fin p h' tk _ c hp up (old h' k) above here⟩⟩
end
end DL
namespace DL
open PySem PySem.W PySem.Spec PyProof.Rows L2
def rk:D->Nat
 | .non=>0
 | .bl _=>1
 | .int _=>2
 | .str _=>3
 | .tup _=>4
 | .lst _=>5
def cI (a b:Int):Ordering:=if a < b then .lt else if b < a then .gt else .eq
mutual
def cO:D->D->Ordering
 | .int a,.int b=>cI a b
 | .tup xs,.tup ys=>cOA xs ys
 | a,b=>cI (rk a) (rk b)
def cOA:List D->List D->Ordering
 | [],[]=>.eq
 | [],_::_=>.lt
 | _::_,[]=>.gt
 | x::xs,y::ys=>(cO x y).then (cOA xs ys)
end
theorem e6' (a b:Int):cI b a=(cI a b).swap:=by
 unfold cI
 by_cases h1:a < b
 ·rw [if_pos h1,if_neg (by omega),if_pos h1];rfl
 ·by_cases h2:b < a
  ·rw [if_pos h2,if_neg h1,if_pos h2];rfl
  ·rw [if_neg h2,if_neg h1,if_neg h1,if_neg h2];rfl
theorem rt' {a b:D} (h:rk a≠rk b):cO a b=cI (rk a) (rk b):=by
 cases a<;>cases b<;>first | rfl | (exact absurd rfl h) | (simp [cO];done)
mutual
theorem jp':∀ a b:D,cO b a=(cO a b).swap
 | .int a,b=>by
  cases b<;>simp only [cO]<;>exact e6' _ _
 | .tup xs,b=>by
  cases b<;>simp only [cO]<;>first | exact e6' _ _ | exact ln' _ _
 | .non,b=>by cases b<;>simp only [cO]<;>exact e6' _ _
 | .bl _,b=>by cases b<;>simp only [cO]<;>exact e6' _ _
 | .str _,b=>by cases b<;>simp only [cO]<;>exact e6' _ _
 | .lst _,b=>by cases b<;>simp only [cO]<;>exact e6' _ _
theorem ln':∀ xs ys:List D,cOA ys xs=(cOA xs ys).swap
 | [],[]=>by simp [cOA]
 | [],_::_=>by simp [cOA]
 | _::_,[]=>by simp [cOA]
 | x::xs,y::ys=>by
  rw [cOA,cOA,jp' x y,ln' xs ys]
  cases cO x y<;>rfl
end
def dl (a b:D):Bool:=cO a b == .lt
def dlA (xs ys:List D):Bool:=cOA xs ys == .lt
theorem n8' (a b:Int):(cI a b == Ordering.lt)=decide (a < b):=by
 unfold cI
 by_cases h1:a < b
 ·rw [if_pos h1];simp [h1]
 ·rw [if_neg h1]
  split<;>simp [h1]
theorem eB' {a b:Int}:dl (.int a) (.int b)=decide (a < b):=by
 unfold dl
 rw [cO,n8']
theorem gS' {xs ys:List D}:dl (.tup xs) (.tup ys)=dlA xs ys:=by
 unfold dl dlA
 rw [cO]
theorem iO':dlA [] []=false:=by unfold dlA;simp [cOA]
theorem f6' {y:D}{ys:List D}:dlA [] (y::ys)=true:=by unfold dlA;simp [cOA]
theorem gT' {y:D}{ys:List D}:dlA (y::ys) []=false:=by unfold dlA;simp [cOA]
theorem gU' {x y:D}{xs ys:List D}:dlA (x::xs) (y::ys)=(dl x y||(!dl y x&&dlA xs ys)):=by
 unfold dlA dl
 rw [cOA,jp' x y]
 cases cO x y<;>simp [Ordering.then,Ordering.swap]
theorem ru' {a b:D} (h:rk a < rk b):dl a b=true:=by
 unfold dl
 rw [rt' (Nat.ne_of_lt h),n8']
 simp;omega
theorem uh' {a b:D} (h:rk b < rk a):dl a b=false:=by
 unfold dl
 rw [rt' (Nat.ne_of_gt h),n8']
 simp;omega
theorem hM' {a b:D} (h:rk a=rk b) (h1:rk a≠2) (h2:rk a≠4):dl a b=false:=by
 unfold dl
 cases a<;>cases b<;>first | (simp [rk] at h;done) | (exact absurd rfl h1) | (exact absurd rfl h2) | (simp [cO,cI,rk];done)
mutual
theorem iP':∀ a b c:D,dl b a=false->dl c b=false->dl c a=false:=fun a b c h1 h2=>by
 have r1:rk a<=rk b:=Nat.le_of_not_lt fun h=>by rw [ru' h] at h1;cases h1
 have r2:rk b<=rk c:=Nat.le_of_not_lt fun h=>by rw [ru' h] at h2;cases h2
 rcases Nat.lt_or_ge (rk a) (rk c) with h | h
 ·exact uh' h
 ·have e1:rk b=rk a:=by omega
  have e2:rk c=rk a:=by omega
  match a,b,c with
  | .int a,.int b,.int c =>
   rw [eB'] at h1 h2 ⊢
   simp at h1 h2 ⊢
   omega
  | .tup xs,.tup ys,.tup zs =>
   rw [gS'] at h1 h2 ⊢
   exact pu' xs ys zs h1 h2
  | .non,_,_=>exact hM' e2 (by rw [e2];decide) (by rw [e2];decide)
  | .bl _,_,_=>exact hM' e2 (by rw [e2];simp [rk]) (by rw [e2];simp [rk])
  | .str _,_,_=>exact hM' e2 (by rw [e2];simp [rk]) (by rw [e2];simp [rk])
  | .lst _,_,_=>exact hM' e2 (by rw [e2];simp [rk]) (by rw [e2];simp [rk])
termination_by a b c=>sizeOf a+sizeOf b+sizeOf c
decreasing_by all_goals (simp_wf;omega)
theorem pu':∀ xs ys zs:List D,dlA ys xs=false->dlA zs ys=false->dlA zs xs=false
 | [],_,[],_,_=>iO'
 | [],_,z::zs,_,_=>gT'
 | x::xs,[],_,h1,_=>by rw [f6'] at h1;cases h1
 | x::xs,y::ys,[],_,h2=>by rw [f6'] at h2;cases h2
 | x::xs,y::ys,z::zs,h1,h2=>by
  simp only [gU',Bool.or_eq_false_iff,Bool.and_eq_false_iff,Bool.not_eq_false'] at h1 h2 ⊢
  obtain ⟨a1,a2⟩:=h1
  obtain ⟨b1,b2⟩:=h2
  refine ⟨iP' x y z a1 b1,?_⟩
  cases hx:dl x z with
  | true=>exact .inl rfl
  | false =>
   right
   rcases a2 with a2 | a2
   ·have:=iP' y z x b1 hx
    rw [a2] at this;cases this
   ·rcases b2 with b2 | b2
    ·have:=iP' z x y hx a1
     rw [b2] at this;cases this
    ·exact pu' xs ys zs a2 b2
termination_by xs ys zs=>sizeOf xs+sizeOf ys+sizeOf zs
decreasing_by all_goals (simp_wf;omega)
end
theorem rv' (a b:D) (h:dl a b=true):dl b a=false:=by
 unfold dl at h ⊢
 rw [jp' a b]
 cases e:cO a b<;>rw [e] at h<;>first | rfl | (cases h;done)
theorem lo' (ds:List D):Ord fun i j=>dl (ds.getD i .non) (ds.getD j .non):=⟨fun a b h=>rv' _ _ h,fun a b c h1 h2=>iP' _ _ _ h1 h2⟩
mutual
def cmB:D->D->Bool
 | .int _,.int _=>true
 | .tup xs,.tup ys=>cmA xs ys
 | _,_=>false
def cmA:List D->List D->Bool
 | x::xs,y::ys=>cmB x y&&cmA xs ys
 | _,_=>true
end
mutual
theorem f7':∀ a b:D,cmB a b=true->deq a b=(!dl a b&&!dl b a)
 | .int a,.int b,_=>by
  rw [eB',eB']
  by_cases h:a=b
  ·simp [deq,h]
  ·rcases Int.lt_or_gt_of_ne h with h' | h'
   ·simp [deq,h,h']
   ·simp [deq,h,h']
 | .tup xs,.tup ys,h=>by
  rw [cmB] at h
  rw [deq,gS',gS']
  exact nj' xs ys h
 | .non,_,h=>by simp [cmB] at h
 | .bl _,_,h=>by simp [cmB] at h
 | .str _,_,h=>by simp [cmB] at h
 | .lst _,_,h=>by simp [cmB] at h
 | .int _,.non,h=>by simp [cmB] at h
 | .int _,.bl _,h=>by simp [cmB] at h
 | .int _,.str _,h=>by simp [cmB] at h
 | .int _,.tup _,h=>by simp [cmB] at h
 | .int _,.lst _,h=>by simp [cmB] at h
 | .tup _,.non,h=>by simp [cmB] at h
 | .tup _,.bl _,h=>by simp [cmB] at h
 | .tup _,.str _,h=>by simp [cmB] at h
 | .tup _,.int _,h=>by simp [cmB] at h
 | .tup _,.lst _,h=>by simp [cmB] at h
theorem nj':∀ xs ys:List D,cmA xs ys=true->deqA xs ys=(!dlA xs ys&&!dlA ys xs)
 | [],[],_=>by simp [deqA,iO']
 | [],_::_,_=>by simp [deqA,f6',gT']
 | _::_,[],_=>by simp [deqA,f6',gT']
 | x::xs,y::ys,h=>by
  rw [cmA,Bool.and_eq_true] at h
  rw [deqA,f7' x y h.1,nj' xs ys h.2,gU',gU']
  cases h1:dl x y<;>cases h2:dl y x<;>simp
end
mutual
theorem gV':∀ a b:D,cmB a b=true->deq a b=true->a=b
 | .int a,.int b,_,h=>by simp [deq] at h;rw [h]
 | .tup xs,.tup ys,c,h=>by
  rw [cmB] at c
  rw [deq] at h
  rw [nk' xs ys c h]
 | .non,_,h,_=>by simp [cmB] at h
 | .bl _,_,h,_=>by simp [cmB] at h
 | .str _,_,h,_=>by simp [cmB] at h
 | .lst _,_,h,_=>by simp [cmB] at h
 | .int _,.non,h,_=>by simp [cmB] at h
 | .int _,.bl _,h,_=>by simp [cmB] at h
 | .int _,.str _,h,_=>by simp [cmB] at h
 | .int _,.tup _,h,_=>by simp [cmB] at h
 | .int _,.lst _,h,_=>by simp [cmB] at h
 | .tup _,.non,h,_=>by simp [cmB] at h
 | .tup _,.bl _,h,_=>by simp [cmB] at h
 | .tup _,.str _,h,_=>by simp [cmB] at h
 | .tup _,.int _,h,_=>by simp [cmB] at h
 | .tup _,.lst _,h,_=>by simp [cmB] at h
theorem nk':∀ xs ys:List D,cmA xs ys=true->deqA xs ys=true->xs=ys
 | [],[],_,_=>rfl
 | [],_::_,_,h=>by simp [deqA] at h
 | _::_,[],_,h=>by simp [deqA] at h
 | x::xs,y::ys,c,h=>by
  rw [cmA,Bool.and_eq_true] at c
  rw [deqA,Bool.and_eq_true] at h
  rw [gV' x y c.1 h.1,nk' xs ys c.2 h.2]
end
open PySem.SeqAt in
theorem iQ' (e lt:Nat->Bool) (d:Bool) (f:Nat->Nat):∀ l:List Nat,ltFrom e lt d (l.map f)=ltFrom (fun i=>e (f i)) (fun i=>lt (f i)) d l
 | []=>rfl
 | i::l=>by rw [List.map_cons,ltFrom,ltFrom,iQ' e lt d f l]
open PySem.SeqAt in
theorem j7':∀ xs ys:List D,cmA xs ys=true->ltFrom (fun j=>deq (xs.getD j .non) (ys.getD j .non)) (fun j=>dl (xs.getD j .non) (ys.getD j .non)) (decide (xs.length < ys.length)) (List.range (min xs.length ys.length))=dlA xs ys
 | [],[],_=>by simp [ltFrom,iO']
 | [],_::_,_=>by simp [ltFrom,f6']
 | _::_,[],_=>by simp [ltFrom,gT']
 | x::xs,y::ys,c=>by
  rw [cmA,Bool.and_eq_true] at c
  have ih:=j7' xs ys c.2
  rw [List.length_cons,List.length_cons,Nat.succ_min_succ,List.range_succ_eq_map,ltFrom,iQ',gU']
  have e:ltFrom (fun i=>deq ((x::xs).getD i.succ .non) ((y::ys).getD i.succ .non)) (fun i=>dl ((x::xs).getD i.succ .non) ((y::ys).getD i.succ .non)) (decide (xs.length+1 < ys.length+1)) (List.range (min xs.length ys.length))=dlA xs ys:=by
   rw [← ih]
   congr 1
   simp
  rw [e]
  show (if deq x y=true then dlA xs ys else dl x y)=_
  rw [f7' x y c.1]
  cases h1:dl x y<;>cases h2:dl y x<;>simp
theorem pv':∀ (xs ys:List D),cmA xs ys=true->∀ j,j < xs.length->j < ys.length->cmB (xs.getD j .non) (ys.getD j .non)=true
 | [],_,_,j,h,_=>by simp at h
 | _::_,[],_,j,_,h=>by simp at h
 | x::xs,y::ys,c,j,h1,h2=>by
  rw [cmA,Bool.and_eq_true] at c
  cases j with
  | zero=>exact c.1
  | succ j=>exact pv' xs ys c.2 j (by simpa using h1) (by simpa using h2)
section
variable {X:Cx}{pins:List (Addr×Obj)}{σ:L2.St}{H:Hp}{s:Shared}
open PySem.SeqAt in
theorem ui' (I:Inv X pins σ H s):∀ (n:Nat) (A:Around),A.units+n < cLine->∀ (a b:D) (x y:V) (u v:Value),dep a<=n->cmB a b=true->Is X.K H a x->Is X.K H b y->RelV x u->RelV y v->RcLtAt A s u v (dl a b):=by
 intro n
 induction n with
 | zero =>
  intro A hu a b x y u v hd c ha hb ru rv
  cases a<;>cases b<;>simp [cmB] at c
  ·rename_i i j
   rw [ar' ha] at ru
   rw [ar' hb] at rv
   obtain ⟨t1,rfl⟩:=ru
   obtain ⟨t2,rfl⟩:=rv
   rw [eB']
   exact RcLtAt.int_int _ _ _ _
  ·rw [dep] at hd
   omega
 | succ n ih =>
  intro A hu a b x y u v hd c ha hb ru rv
  cases a<;>cases b<;>simp [cmB] at c
  ·rename_i i j
   rw [ar' ha] at ru
   rw [ar' hb] at rv
   obtain ⟨t1,rfl⟩:=ru
   obtain ⟨t2,rfl⟩:=rv
   rw [eB']
   exact RcLtAt.int_int _ _ _ _
  ·rename_i ds es
   have hu1:A.in1.units+n < cLine:=by show A.units+1+n < cLine;omega
   obtain ⟨p,xs,rfl,h1,h2⟩:=aD' ha
   obtain ⟨q,ys,rfl,h3,h4⟩:=aD' hb
   cases ru;cases rv
   obtain ⟨its,r1,t1,_⟩:=I.tuple h1
   obtain ⟨jts,r2,t2,_⟩:=I.tuple h3
   have l1:its.toArray.size=ds.length:=by rw [List.size_toArray,← r1.length,h2.length]
   have l2:jts.toArray.size=es.length:=by rw [List.size_toArray,← r2.length,h4.length]
   have two:∀ j (g1:j < its.toArray.size) (g2:j < jts.toArray.size),EqAt A.in1 s its.toArray[j] jts.toArray[j] (deq (ds.getD j .non) (es.getD j .non))/\(deq (ds.getD j .non) (es.getD j .non)=false->RcLtAt A.in1 s its.toArray[j] jts.toArray[j] (dl (ds.getD j .non) (es.getD j .non))):=fun j g1 g2=>by
    obtain ⟨v1,q1,q2⟩:=h2.getU r1 g1
    obtain ⟨v2,q3,q4⟩:=h4.getU r2 g2
    have m1:ds.getD j .non∈ds:=by
     rw [List.getD_eq_getElem?_getD,List.getElem?_eq_getElem (by omega)]
     exact List.getElem_mem _
    have k1:=cE' m1
    rw [dep] at hd
    exact ⟨(hH' I n A.in1 hu1 _ _ _ _ _ _ (.inl (by omega)) q2 q4 q1 q3).2.1,fun _=>ih A.in1 hu1 _ _ _ _ _ _ (by omega) (pv' ds es c j (by omega) (by omega)) q2 q4 q1 q3⟩
   have R1:=RcLtAt.tuples (A:=A) t1 t2 (by omega) two
   rw [l1,l2,j7' ds es c] at R1
   rw [gS']
   exact R1
end
end DL
namespace DL
open PySem PySem.W PySem.Spec PyProof.Rows L2
def leD (a b:D):Bool:=!dl b a
def sortD (ds:List D):List D:=ds.mergeSort leD
theorem ts' (a b c:D) (h1:leD a b=true) (h2:leD b c=true):leD a c=true:=by
 unfold leD at *
 simp only [Bool.not_eq_true'] at *
 exact iP' a b c h1 h2
theorem r7' (a b:D):(leD a b||leD b a)=true:=by
 unfold leD
 cases h:dl b a with
 | false=>rfl
 | true=>rw [rv' b a h];rfl
theorem cl' (ds:List D):(sortD ds).Perm ds:=List.mergeSort_perm ds leD
theorem cn' (ds:List D):(sortD ds).Pairwise fun a b=>leD a b=true:=List.pairwise_mergeSort ts' r7' ds
theorem gh':∀ (l m:List D),l.Perm m->(l.Pairwise fun a b=>leD a b=true)->(m.Pairwise fun a b=>leD a b=true)->(∀ a∈l,∀ b∈l,leD a b=true->leD b a=true->a=b)->l=m
 | [],m,p,_,_,_=>by rw [List.nil_perm.mp p]
 | a::l,[],p,_,_,_=>by have:=p.length_eq;simp at this
 | a::l,b::m,p,h1,h2,an=>by
  have e:a=b:=by
   have ia:a∈b::m:=p.mem_iff.mp List.mem_cons_self
   have ib:b∈a::l:=p.mem_iff.mpr List.mem_cons_self
   rcases List.mem_cons.mp ia with h | h
   ·exact h
   ·rcases List.mem_cons.mp ib with h' | h'
    ·exact h'.symm
    ·exact an a List.mem_cons_self b ib ((List.pairwise_cons.mp h1).1 b h') ((List.pairwise_cons.mp h2).1 a h)
  subst e
  rw [gh' l m ((List.perm_cons a).mp p) (List.pairwise_cons.mp h1).2 (List.pairwise_cons.mp h2).2 fun x hx y hy=>an x (List.mem_cons_of_mem _ hx) y (List.mem_cons_of_mem _ hy)]
def permD (p:Array Nat) (ds:List D):List D:=p.toList.map fun i=>ds.getD i .non
def permV (p:Array Nat) (zs:List V):List V:=p.toList.map fun i=>zs.getD i .non
def cmAll (ds:List D):Bool:=ds.all fun a=>ds.all fun b=>cmB a b
theorem pw' {ds:List D}{p:Array Nat} (hp:Pm ds.length p) (up:Up (fun i j=>dl (ds.getD i .non) (ds.getD j .non)) p ds.length) (cm:cmAll ds=true):permD p ds=sortD ds:=by
 have pm:(permD p ds).Perm ds:=by
  have h1:p.toList.Perm (List.range ds.length):=by
   have:=Array.perm_iff_toList_perm.mp hp
   simpa using this
  have h2:=h1.map fun i=>ds.getD i .non
  have h3:((List.range ds.length).map fun i=>ds.getD i .non)=ds:=by
   refine List.ext_getElem (by simp) fun i h1 h2=>?_
   simp [h2]
  rw [h3] at h2
  exact h2
 have cm':∀ a∈permD p ds,∀ b∈permD p ds,cmB a b=true:=fun a ha b hb=>by
  have:=List.all_eq_true.mp cm a (pm.mem_iff.mp ha)
  exact List.all_eq_true.mp this b (pm.mem_iff.mp hb)
 refine gh' _ _ (pm.trans (cl' ds).symm) ?_ (cn' ds) fun a ha b hb h1 h2=>?_
 ·rw [List.pairwise_iff_getElem]
  intro i j hi hj hij
  unfold permD at hi hj ⊢
  rw [List.length_map,Array.length_toList,hp.size] at hi hj
  have:=up i j hij hj
  simp only [List.getElem_map,Array.getElem_toList]
  unfold gt at this
  rw [Array.getD,dif_pos (by rw [hp.size];exact hj),Array.getD,dif_pos (by rw [hp.size];exact hi)] at this
  unfold leD
  rw [Bool.not_eq_true']
  exact this
 ·have c:=cm' a ha b hb
  refine gV' a b c ?_
  rw [f7' a b c]
  unfold leD at h1 h2
  rw [h1,h2]
  rfl
section
variable {X:Cx}{pins:List (Addr×Obj)}{σ:L2.St}{H:Hp}{s:Shared}{A:Around}
def fstI:D->Bool
 | .tup (.int _::_)=>true
 | _=>false
def fstT:D->Bool
 | .tup (.tup _::_)=>true
 | _=>false
def isInt:D->Bool
 | .int _=>true
 | _=>false
theorem px' (I:Inv X pins σ H s){prog:Program}{w:World}{n:Nat}{b fin:Bool}{Q:Bool->Shared->Prop} (hu:A.units+n < cLine):∀ (ds es:List D) (xs ys:List V) (us vs:List Value) (i:Nat),IsA X.K H ds xs->IsA X.K H es ys->Vals xs us->Vals ys vs →
  depA ds<=n->cmA ds es=true->fin=decide (ds.length < es.length)->(b=true->i=0->∀ d e r r',ds=d::r->es=e::r'->isInt d=true/\isInt e=true)->Q (dlA ds es) s->KatLex prog w A b fin Q (us.zip vs) i s
 | [],es,xs,ys,us,vs,i,h1,h2,h3,h4,hd,c,hf,fl,q=>by
  have:=h1.nil_inv;subst this
  cases h3
  rw [List.zip_nil_left]
  refine kat_nil ?_
  rw [hf]
  cases es with
  | nil=>rw [iO'] at q;exact q
  | cons e es=>rw [f6'] at q;simpa using q
 | d::ds,[],xs,ys,us,vs,i,h1,h2,h3,h4,hd,c,hf,fl,q=>by
  have:=h2.nil_inv;subst this
  cases h4
  rw [List.zip_nil_right]
  refine kat_nil ?_
  rw [hf]
  rw [gT'] at q
  simpa using q
 | d::ds,e::es,xs,ys,us,vs,i,h1,h2,h3,h4,hd,c,hf,fl,q=>by
  obtain ⟨x,xr,rfl,a1,a2⟩:=h1.cons_inv
  obtain ⟨y,yr,rfl,b1,b2⟩:=h2.cons_inv
  cases h3 with
  | cons r1 r2 =>
   cases h4 with
   | cons s1 s2 =>
    rename_i u us' v vs'
    rw [depA] at hd
    rw [cmA,Bool.and_eq_true] at c
    rw [gU'] at q
    have eq:=(hH' I n A hu d e x y u v (.inl (by omega)) a1 b1 r1 s1).2.1
    have lt:=ui' I n A hu d e x y u v (by omega) c.1 a1 b1 r1 s1
    have ed:=f7' d e c.1
    rw [List.zip_cons_cons]
    refine kat_cons (eq prog w _ _ (kat_go (fun h=>kat_yes ?_) fun h=>kat_no ?_))
    ·refine px' I hu ds es xr yr us' vs' (i+1) a2 b2 r2 s2 (by omega) c.2 (by rw [hf];simp) (fun _ z=>by omega) ?_
     rw [h] at ed
     have ed:=ed.symm
     simp only [Bool.and_eq_true,Bool.not_eq_true'] at ed
     rw [ed.1,ed.2] at q
     simpa using q
    ·have q':Q (dl d e) s:=by
      rw [h] at ed
      cases h1:dl d e with
      | true=>rw [h1] at q;simpa using q
      | false =>
       rw [h1] at ed q
       cases h2:dl e d with
       | true=>rw [h2] at q;simpa using q
       | false=>rw [h2] at ed;cases ed
     by_cases z:b=true/\i=0
     ·obtain ⟨zb,zi⟩:=z
      obtain ⟨f1,f2⟩:=fl zb zi d e ds es rfl rfl
      subst zb;subst zi
      cases d<;>simp [isInt] at f1
      cases e<;>simp [isInt] at f2
      rw [ar' a1] at r1
      rw [ar' b1] at s1
      obtain ⟨t1,rfl⟩:=r1
      obtain ⟨t2,rfl⟩:=s1
      show wpAny _ _ (oneLt' true _ _) _ _ _
      rw [← keyLt'_oneType]
      rw [eB'] at q'
      exact kat_lt_int q'
     ·have:(b&&i == 0)=false:=by
       cases b
       ·rfl
       ·simp at z ⊢
        exact z
      rw [this]
      exact kat_one _ _ (lt prog w _ _ q')
theorem at_k {ds:List D}{zs:List V}{vs:List Value} (h:IsA X.K H ds zs) (r:Vals zs vs){k:Nat} (hk:k < vs.length):∃ x,Is X.K H (ds.getD k .non) x/\RelV x (vs.getD k .none)/\ds.getD k .non∈ds/\zs[k]?=some x:=by
 have l1:=h.length
 have l2:=r.length
 have hk1:k < ds.length:=by omega
 obtain ⟨x,e1,e2⟩:=h.get (List.getElem?_eq_getElem hk1)
 obtain ⟨u,e3,e4⟩:=r.get e1
 refine ⟨x,?_,?_,?_,e1⟩
 ·rw [List.getD_eq_getElem?_getD,List.getElem?_eq_getElem hk1];exact e2
 ·rw [List.getD_eq_getElem?_getD,e3];exact e4
 ·rw [List.getD_eq_getElem?_getD,List.getElem?_eq_getElem hk1];exact List.getElem_mem _
theorem jq' (I:Inv X pins σ H s) (prog:Program) (w:World) (P:D->Bool) (T:Value) (hP:∀ d,P d=true->∃ f r,d=.tup (f::r)/\∀ x u,Is X.K H f x->RelV x u->Looks (model prog w) s.heap (typeOf u) T) :
  ∀ (ds:List D) (zs:List V) (vs:List Value),IsA X.K H ds zs->Vals zs vs->ds.all P=true->∃ fs,KatTups s.heap vs fs/\fs.length=vs.length/\∀ v∈fs,Looks (model prog w) s.heap (typeOf v) T
 | [],zs,vs,h,r,_=>by
  have:=h.nil_inv;subst this
  cases r
  exact ⟨[],KatTups.nil,rfl,fun v hv=>nomatch hv⟩
 | d::ds,zs,vs,h,r,ok=>by
  obtain ⟨x,zr,rfl,h1,h2⟩:=h.cons_inv
  rw [List.all_cons,Bool.and_eq_true] at ok
  cases r with
  | cons r1 r2 =>
   obtain ⟨fs,k1,k2,k3⟩:=jq' I prog w P T hP ds zr _ h2 r2 ok.2
   obtain ⟨f,rest,rfl,look⟩:=hP d ok.1
   obtain ⟨a,ys,rfl,g1,g2⟩:=aD' h1
   cases r1
   obtain ⟨its,q1,q2,_⟩:=I.tuple g1
   obtain ⟨y,yr,rfl,g3,g4⟩:=g2.cons_inv
   cases q1 with
   | cons q3 q4 =>
    obtain ⟨o,e1,e2,n,e3⟩:=q2
    refine ⟨_::fs,KatTups.cons e1 e2 e3 rfl k1,by simp [k2],fun v hv=>?_⟩
    rcases List.mem_cons.mp hv with rfl | hv
    ·exact look y _ g3 q3
    ·exact k3 v hv
def SortOk (ds:List D):Prop:=ds.length < 64/\cmAll ds=true/\depA ds<=50/\(ds.all isInt=true\/ds.all fstI=true\/ds.all fstT=true)
theorem h4' (hu:X.A.units+100 < cLine){l:Addr}{ds:List D}{zs:List V}{its:List Value}{Q:VK} (I:Inv X pins σ H s) (ha:IsA X.K H ds zs) (rv:Vals zs its) (ok:SortOk ds)
  (col:∀ Q':List Value->Shared->Prop,(∀ h' tk,(∀ b o,s.heap.get? b=some o->h'.get? b=some o)->s.heap.objs.size<=h'.objs.size->Q' its { s with heap:=h',toks:=tk })->wpAny (model X.prog X.w) X.A.in1 (collect (.ref l)) Q' X.xe s)
  (k:∀ l q,Pm ds.length q->permD q ds=sortD ds->H l=none->Q (.ref l) (upd H l (.lst (permV q zs)))):wpAny (model X.prog X.w) X.A (call (.builtin "sorted") [.ref l]) (EP X pins σ Q) X.xe s:=by
 obtain ⟨h64,cm,dp,kd⟩:=ok
 have l1:=ha.length
 have l2:=rv.length
 have n1:its.length=ds.length:=by omega
 have cmij:∀ i j,i < its.length->j < its.length->cmB (ds.getD i .non) (ds.getD j .non)=true:=fun i j hi hj=>by
  obtain ⟨_,_,_,mi,_⟩:=at_k ha rv hi
  obtain ⟨_,_,_,mj,_⟩:=at_k ha rv hj
  exact List.all_eq_true.mp (List.all_eq_true.mp cm _ mi) _ mj
 have out:∀ q h' tk D c,Pm its.length q->Up (fun i j=>dl (ds.getD i .non) (ds.getD j .non)) q its.length->(∀ b o,s.heap.get? b=some o->h'.get? b=some o)->s.heap.objs.size<=D->h'.get? D=some (seqObj "list" (byP its q).toArray c)->EP X pins σ Q (.ref D) { s with heap:=h',toks:=tk }:=fun q h' tk D c hp up keep above here=>by
  rw [n1] at hp up
  have hv:Vals (permV q zs) (byP its q):=by
   refine jo' (by simp [permV,byP]) fun i x u e1 e2=>?_
   obtain ⟨j,f1,rfl⟩:=getMap e1
   obtain ⟨j',f2,rfl⟩:=getMap e2
   rw [f1] at f2
   cases f2
   have hj:j < ds.length:=by
    have h1:j∈q.toList:=List.mem_of_getElem? f1
    have h2:=(Array.perm_iff_toList_perm.mp hp).mem_iff.mp h1
    simpa using h2
   obtain ⟨x,_,e4,_,e5⟩:=at_k ha rv (k:=j) (by omega)
   rw [List.getD_eq_getElem?_getD,e5]
   exact e4
  refine ⟨.ref D,_,I.laid (t':=tk) keep above (o:=.lst (permV q zs)) ⟨?_,byP its q,c,hv,here⟩,rfl,k D q hp (pw' hp up cm) (I.hok.fresh above)⟩
  show (permV q zs).length<=sizeLine
  rw [permV,List.length_map,Array.length_toList,hp.size,sizeLine_eq]
  omega
 have tupLt:∀ (b:Bool) (P:D->Bool),(∀ d,P d=true->∃ f r,d=.tup (f::r)/\(b=true->isInt f=true))->ds.all P=true->∀ h' tk i j C,(∀ b o,s.heap.get? b=some o->h'.get? b=some o)->i < its.length->j < its.length->C (dl (ds.getD i .non) (ds.getD j .non)) { s with heap:=h',toks:=tk } →
   wpAny (model X.prog X.w) X.A.in1.in1 (keyLt' (tuples' b) (its.getD i Value.none) (its.getD j Value.none)) C (fun _ _=>False) { s with heap:=h',toks:=tk }:=fun b P hP all h' tk i j C keep hi hj hc=>by
  have I':Inv X pins σ H { s with heap:=h',toks:=tk }:=I.kept (t':=tk) keep
  obtain ⟨x,a1,a2,a3,_⟩:=at_k ha rv hi
  obtain ⟨y,b1,b2,b3,_⟩:=at_k ha rv hj
  have cc:=cmij i j hi hj
  have dq:=cE' a3
  obtain ⟨f1,r1,e1,g1⟩:=hP _ (List.all_eq_true.mp all _ a3)
  obtain ⟨f2,r2,e2,g2⟩:=hP _ (List.all_eq_true.mp all _ b3)
  rw [e1] at a1 cc hc dq
  rw [e2] at b1 cc hc
  obtain ⟨pa,xs,rfl,x1,x2⟩:=aD' a1
  obtain ⟨pb,ys,rfl,y1,y2⟩:=aD' b1
  generalize its.getD i Value.none=ui at a2
  generalize its.getD j Value.none=uj at b2
  cases a2;cases b2
  obtain ⟨us,q1,q2,_⟩:=I'.tuple x1
  obtain ⟨vs,q3,q4,_⟩:=I'.tuple y1
  obtain ⟨oa,m1,m2,na,m3⟩:=q2
  obtain ⟨ob,m4,m5,nb,m6⟩:=q4
  rw [gS'] at hc
  rw [cmB] at cc
  rw [dep] at dq
  refine kat_lt m1 m3 m4 m6 (px' I' (n:=50) (by show X.A.units+1+1+50 < cLine;omega) _ _ xs ys _ _ 0 x2 y2 q1 q3 (by omega) cc ?_ (fun zb _ d e rr rr' z1 z2=>?_) hc)
  ·have:=x2.length;have:=y2.length;have:=q1.length;have:=q3.length
   simp only [List.size_toArray]
   congr 1
   apply propext
   constructor<;>intro _<;>omega
  ·cases z1;cases z2
   exact ⟨g1 zb,g2 zb⟩
 rcases kd with kd | kd | kd
 ·-- whole numbers
  have isI:∀ k,k < its.length->∃ i t,its.getD k Value.none=.int i t/\ds.getD k .non=.int i:=fun k hk=>by
   obtain ⟨x,a1,a2,a3,_⟩:=at_k ha rv hk
   have:=List.all_eq_true.mp kd _ a3
   cases e:ds.getD k .non<;>rw [e] at this a1<;>simp [isInt] at this
   rw [ar' a1] at a2
   obtain ⟨t,a2⟩:=a2
   exact ⟨_,t,a2,rfl⟩
  refine gR' (κ:=oneType') (lt:=fun i j=>dl (ds.getD i .non) (ds.getD j .non)) (by omega) (lo' ds) col (fun h' tk Q' keep two q=>?_) (fun h' tk i j C keep hi hj hc=>?_) out
  ·refine kas_kind (T:=.type "int") two (fun v hv=>?_) (by decide) (by decide) q
   obtain ⟨k,hk,rfl⟩:=List.getElem_of_mem hv
   obtain ⟨i,t,e,_⟩:=isI k hk
   rw [List.getD_eq_getElem?_getD,List.getElem?_eq_getElem hk] at e
   change its[k]=_ at e
   rw [e]
   exact Looks.now
  ·obtain ⟨a,t1,e1,f1⟩:=isI i hi
   obtain ⟨b,t2,e2,f2⟩:=isI j hj
   rw [f1,f2,eB'] at hc
   rw [e1,e2]
   exact kat_lt_int hc
 ·-- tuples that begin with a whole number
  refine gR' (κ:=tuples' true) (lt:=fun i j=>dl (ds.getD i .non) (ds.getD j .non)) (by omega) (lo' ds) col (fun h' tk Q' keep two q=>?_) (fun h' tk i j C keep hi hj hc=>tupLt true fstI (fun d hd=>?_) kd h' tk i j C keep hi hj hc) out
  ·have I':Inv X pins σ H { s with heap:=h',toks:=tk }:=I.kept (t':=tk) keep
   obtain ⟨fs,k1,k2,k3⟩:=jq' I' X.prog X.w fstI (.type "int") (fun d hd=>by
    unfold fstI at hd
    split at hd
    ·refine ⟨_,_,rfl,fun x u hx hr=>?_⟩
     rw [ar' hx] at hr
     obtain ⟨t,rfl⟩:=hr
     exact Looks.now
    ·cases hd) ds zs its ha rv kd
   exact kat_kind k1 (by omega) k3 (by decide) q
  ·unfold fstI at hd
   split at hd
   ·exact ⟨_,_,rfl,fun _=>rfl⟩
   ·cases hd
 ·-- tuples that begin with a tuple
  refine gR' (κ:=tuples' false) (lt:=fun i j=>dl (ds.getD i .non) (ds.getD j .non)) (by omega) (lo' ds) col (fun h' tk Q' keep two q=>?_) (fun h' tk i j C keep hi hj hc=>tupLt false fstT (fun d hd=>?_) kd h' tk i j C keep hi hj hc) out
  ·have I':Inv X pins σ H { s with heap:=h',toks:=tk }:=I.kept (t':=tk) keep
   obtain ⟨fs,k1,k2,k3⟩:=jq' I' X.prog X.w fstT (.type "tuple") (fun d hd=>by
    unfold fstT at hd
    split at hd
    ·refine ⟨_,_,rfl,fun x u hx hr=>?_⟩
     obtain ⟨a,ys,rfl,g1,g2⟩:=aD' hx
     cases hr
     obtain ⟨jts,q1,q2,_⟩:=I'.tuple g1
     obtain ⟨o,e1,e2,n,e3⟩:=q2
     have look:Looks (model X.prog X.w) h' (typeOf (.ref a)) o.cls:=(Looks.ld e1).andThen .now
     rw [e2] at look
     exact look
    ·cases hd) ds zs its ha rv kd
   exact kat_kind k1 (by omega) k3 (by decide) q
  ·unfold fstT at hd
   split at hd
   ·exact ⟨_,_,rfl,fun h=>by cases h⟩
   ·cases hd
theorem lp' (hu:X.A.units+100 < cLine):CallR X (.builtin "sorted") (fun xs H Q=>∃ (p:Addr) (zs:List V) (ds:List D),xs=[.ref p]/\SqL X.K H p zs/\IsA X.K H ds zs/\SortOk ds/\∀ l q,Pm ds.length q->permD q ds=sortD ds->H l=none->Q (.ref l) (upd H l (.lst (permV q zs)))):=by
 intro pins s σ H xs us Q I r h
 obtain ⟨p,zs,ds,rfl,hq,ha,ok,k⟩:=h
 obtain ⟨u,rfl,ru⟩:=vals1 r
 cases ru
 obtain ⟨its,rv,t,hz⟩:=I.list hq
 have l1:=ha.length
 have l2:=rv.length
 have line:64<=sizeLine:=by rw [sizeLine_eq];decide
 refine h4' hu I ha rv ok (fun Q' q=>collect_list t.isList (q _ s.toks (fun b o x=>?_) ?_) (by have:=ok.1;omega)) k
 ·exact (Heap.get?_update_other _ _ (Ne.symm (Nat.ne_of_lt (Heap.lt_size x)))).trans (Heap.get?_push_of_some _ x)
 ·rw [Heap.size_update,size_push']
  exact Nat.le_succ _
end
section
variable {X:Cx}{B:BB}{e:Expr}{pos:Pos}{kr:Nat}
def sortF (ds:List D):Option (List D):=match ds with
 | [.lst xs]=>if xs.length < 64/\cmAll xs=true/\depA xs<=50/\(xs.all isInt=true\/xs.all fstI=true\/xs.all fstT=true) then some (sortD xs) else none
 | _=>none
theorem IsA.perm {K:PySem.W.Frag}{I:Hp}{ds:List D}{zs:List V}{q:Array Nat} (h:IsA K I ds zs) (hp:Pm ds.length q):IsA K I (permD q ds) (permV q zs):=by
 have low:∀ j∈q.toList,j < ds.length:=fun j hj=>by
  have:=(Array.perm_iff_toList_perm.mp hp).mem_iff.mp hj
  simpa using this
 unfold permD permV
 clear hp
 generalize q.toList=js at low
 induction js with
 | nil=>exact IsA.nil
 | cons j js ih =>
  rw [List.map_cons,List.map_cons]
  refine IsA.cons ?_ (ih fun i hi=>low i (List.mem_cons_of_mem _ hi))
  have hj:=low j List.mem_cons_self
  obtain ⟨x,e1,e2⟩:=h.get (List.getElem?_eq_getElem hj)
  rw [List.getD_eq_getElem?_getD,List.getD_eq_getElem?_getD,e1,List.getElem?_eq_getElem hj]
  exact e2
theorem eC' {p:Pos}{t:M (List D)} (hr:Room kr X.A) (hg:Gl X "sorted") (hm:X.mg "sorted"=none) (ha:AD X B [e] t) (he:starEach [e] X.env=(false,eval e X.env)::starEach [] X.env:=by rfl) (hpl:(backTo pos (starEach [] X.env)).any (·.1)=false:=by rfl) :
  EO X B (.Call (.Name "sorted" p) [e] [] pos) (fn1 sortF t):=s7' (lp' (hu100 hr)) (fun ds d e B G I H σ Γ xs Q r h k=>by
 unfold sortF at e
 split at e
 ·obtain ⟨ok,rfl⟩:=aQ' e
  obtain ⟨x,rfl,hx⟩:=h.one
  obtain ⟨q,zs,rfl,h3,h4⟩:=aJ' hx
  refine ⟨q,zs,_,rfl,(Same.rdK r.iH h3).sq,h4.mono r.iH,ok,fun l q' hp es hl=>?_⟩
  refine k.new r hl ?_
  rw [← es]
  exact h4.perm hp
 ·cases e) hg hm boot_sorted ha (by decide) (by decide) he hpl
end
end DL
namespace DL
open PySem PySem.SetTable
def Ris (xs:Array Nat):Prop:=∀ i j (hi:i < xs.size) (hj:j < xs.size),i < j->xs[i] < xs[j]
theorem in' {xs:Array Nat} (R:Ris xs) (j:Nat):∀ (f lo hi:Nat),hi<=xs.size->lo<=hi->hi - lo<=f->(∀ i (h:i < xs.size),i < lo->xs[i] < j)->(∀ i (h:i < xs.size),hi<=i->j<=xs[i]) →
  (below.go xs j f lo hi<=xs.size/\(∀ i (h:i < xs.size),i < below.go xs j f lo hi->xs[i] < j)/\∀ i (h:i < xs.size),below.go xs j f lo hi<=i->j<=xs[i])
 | 0,lo,hi,h1,h2,h3,h4,h5=>by
  rw [below.go]
  exact ⟨by omega,h4,fun i h x=>h5 i h (by omega)⟩
 | f+1,lo,hi,h1,h2,h3,h4,h5=>by
  rw [below.go]
  split
  ·have hm:(lo+hi) / 2 < xs.size:=by omega
   have e:xs.getD ((lo+hi) / 2) j=xs[(lo+hi) / 2]:=by rw [Array.getD,dif_pos hm];rfl
   dsimp only
   rw [e]
   split
   ·rename_i lt
    refine in' R j f ((lo+hi) / 2+1) hi h1 (by omega) (by omega) (fun i h x=>?_) h5
    by_cases z:i=(lo+hi) / 2
    ·subst z;exact lt
    ·exact Nat.lt_trans (R i _ h hm (by omega)) lt
   ·rename_i nlt
    refine in' R j f lo ((lo+hi) / 2) (by omega) (by omega) (by omega) h4 fun i h x=>?_
    by_cases z:i=(lo+hi) / 2
    ·subst z;omega
    ·have:=R _ i hm h (by omega);omega
  ·exact ⟨by omega,h4,fun i h x=>h5 i h (by omega)⟩
theorem gi' {xs:Array Nat} (R:Ris xs) (j:Nat):below xs j<=xs.size/\(∀ i (h:i < xs.size),i < below xs j->xs[i] < j)/\∀ i (h:i < xs.size),below xs j<=i->j<=xs[i] :=
 in' R j xs.size 0 xs.size (Nat.le_refl _) (Nat.zero_le _) (Nat.le_refl _) (fun i h x=>by omega) fun i h x=>by omega
theorem qO' {xs:Array Nat} (R:Ris xs){i:Nat} (h:i < xs.size):below xs xs[i]=i:=by
 obtain ⟨b1,b2,b3⟩:=gi' R xs[i]
 rcases Nat.lt_trichotomy (below xs xs[i]) i with l | l | l
 ·have:=b3 (below xs xs[i]) (by omega) (Nat.le_refl _)
  have:=R _ i (by omega) h l
  omega
 ·exact l
 ·have:=b2 i h l
  omega
section
variable {t:SetTable}
theorem j8' (R:Ris t.place){i:Nat} (h:i < t.place.size):t.slot t.place[i]=.live i:=by
 unfold slot
 dsimp only
 rw [qO' R h,Array.getElem?_eq_getElem h]
 simp
theorem py' (R:Ris t.place) (hd:t.dummies=#[]){j:Nat} (h:j∉t.place):t.slot j=.empty:=by
 unfold slot
 dsimp only
 have e:¬ (t.place[below t.place j]? == some j)=true:=by
  intro z
  have z:t.place[below t.place j]?=some j:=by simpa using z
  exact h (Array.mem_of_getElem? z)
 rw [if_neg e]
 unfold has
 rw [hd]
 simp
def hd (m i p:Nat):Probe:=⟨i,runEnd m i - i,i,p,none⟩
def adv (m:Nat) (p:Probe):Probe:=match p with
 | ⟨j,k+1,i,q,d⟩=>⟨j+1,k,i,q,d⟩
 | ⟨_,0,i,q,d⟩=>⟨(leap m i q).1,runEnd m (leap m i q).1 - (leap m i q).1,(leap m i q).1,(leap m i q).2,d⟩
def pth (m:Nat) (h:Int):Nat->Probe
 | 0=>hd m (bits h % (m+1)) (bits h)
 | k+1=>adv m (pth m h k)
theorem lq' (h:Int) (k:Nat):t.advance (pth t.mask h k)=pth t.mask h (k+1):=by
 rw [pth]
 rcases pth t.mask h k with ⟨j,more,i,q,d⟩
 cases more<;>rfl
theorem j9' (m:Nat) (h:Int):∀ k,(pth m h k).dummy=none
 | 0=>rfl
 | k+1=>by
  have ih:=j9' m h k
  rw [pth]
  revert ih
  rcases pth m h k with ⟨j,more,i,q,d⟩
  intro ih
  cases more<;>exact ih
def sl (m:Nat) (h:Int) (k:Nat):Nat:=(pth m h k).j
theorem jr' {m:Nat}{h:Int}{c i p:Nat} (e:pth m h c=hd m i p):∀ d,d<=runEnd m i - i->pth m h (c+d)=⟨i+d,runEnd m i - i - d,i,p,none⟩
 | 0,_=>e
 | d+1,hd'=>by
  have ih:=jr' e d (by omega)
  rw [← Nat.add_assoc,pth,ih]
  obtain ⟨k,hk⟩:∃ k,runEnd m i - i - d=k+1:=⟨runEnd m i - i - d - 1,by omega⟩
  rw [hk,show runEnd m i - i - (d+1)=k by omega]
  rfl
theorem lr' {m:Nat}{h:Int}{c i p:Nat} (e:pth m h c=hd m i p):pth m h (c+(runEnd m i - i)+1)=hd m (leap m i p).1 (leap m i p).2:=by
 have:=jr' e (runEnd m i - i) (Nat.le_refl _)
 rw [pth,this,Nat.sub_self]
 rfl
theorem tt' (m i:Nat):runEnd m i - i<=9:=by
 unfold runEnd
 split<;>omega
def lp (m:Nat):Nat->Nat->Nat->Nat×Nat
 | 0,i,p=>(i,p)
 | n+1,i,p=>lp m n (leap m i p).1 (leap m i p).2
theorem pz' {m:Nat}{h:Int}:∀ (n c i p:Nat),pth m h c=hd m i p->∃ c',c<=c'/\c'<=c+10*n/\pth m h c'=hd m (lp m n i p).1 (lp m n i p).2
 | 0,c,i,p,e=>⟨c,Nat.le_refl _,by omega,e⟩
 | n+1,c,i,p,e=>by
  obtain ⟨c',h1,h2,h3⟩:=pz' n _ _ _ (lr' e)
  have:=tt' m i
  exact ⟨c',by omega,by omega,h3⟩
theorem pA' (m:Nat):∀ (a b i p:Nat),lp m (a+b) i p=lp m b (lp m a i p).1 (lp m a i p).2
 | 0,b,i,p=>by rw [Nat.zero_add];rfl
 | a+1,b,i,p=>by rw [Nat.succ_add,lp,pA' m a b];rfl
theorem iR' (m:Nat):∀ (n i p:Nat),(lp m n i p).2=p / 32 ^ n
 | 0,i,p=>by simp [lp]
 | n+1,i,p=>by
  rw [lp,iR' m n]
  show (p / 32) / 32 ^ n=_
  rw [Nat.div_div_eq_div_mul,Nat.pow_succ,Nat.mul_comm]
theorem rx' {m:Nat}:∀ (n i p:Nat),i < m+1->(lp m n i p).1 < m+1
 | 0,i,p,h=>h
 | n+1,i,p,h=>by
  rw [lp]
  exact rx' n _ _ (Nat.mod_lt _ (Nat.succ_pos _))
theorem r8' (h:Int):bits h < 2 ^ 64:=by
 unfold bits
 have h1:=Int.emod_lt_of_pos h (b:=2 ^ 64) (by decide)
 have h2:=Int.emod_nonneg h (b:=2 ^ 64) (by decide)
 omega
def Round (m:Nat):Prop:=∀ i,i < m+1->∀ j,j < m+1->∃ n,n < m+1/\(lp m n i 0).1=j
theorem round7:Round 7:=by
 have:∀ i,i < 8->∀ j,j < 8->∃ n,n < 8/\(lp 7 n i 0).1=j:=by decide +kernel
 exact this
theorem round31:Round 31:=by
 have:∀ i,i < 32->∀ j,j < 32->∃ n,n < 32/\(lp 31 n i 0).1=j:=by decide +kernel
 exact this
theorem pB' {m:Nat} (R:Round m) (h:Int){j:Nat} (hj:j < m+1):∃ n,n < m+14/\(lp m n (bits h % (m+1)) (bits h)).1=j:=by
 have p0:(lp m 13 (bits h % (m+1)) (bits h)).2=0:=by
  rw [iR']
  refine Nat.div_eq_of_lt (Nat.lt_of_lt_of_le (r8' h) ?_)
  decide
 have l0:=rx' (m:=m) 13 (bits h % (m+1)) (bits h) (Nat.mod_lt _ (Nat.succ_pos _))
 obtain ⟨n,h1,h2⟩:=R _ l0 j hj
 refine ⟨13+n,by omega,?_⟩
 rw [pA',p0]
 exact h2
theorem tu' {m:Nat} (R:Round m) (h:Int){j:Nat} (hj:j < m+1):∃ k,k < 10*(m+14)/\sl m h k=j:=by
 obtain ⟨n,h1,h2⟩:=pB' R h hj
 obtain ⟨c,h3,h4,h5⟩:=pz' (m:=m) (h:=h) n 0 _ _ rfl
 refine ⟨c,by omega,?_⟩
 unfold sl
 rw [h5]
 exact h2
end
end DL
namespace DL
open PySem PySem.SetTable
def hA (es:Array (Int×Value)) (i:Nat):Int:=(es[i]?.map (·.1)).getD 0
theorem ry' {es:Array (Int×Value)}{i:Nat} (h:i < es.size):hA es i=es[i].1:=by
 unfold hA
 rw [Array.getElem?_eq_getElem h]
 rfl
structure TabOk (t:SetTable) (es:Array (Int×Value)):Prop where
 nd:t.dummies=#[]
 ris:Ris t.place
 sz:t.place.size=es.size
 low:∀ i (h:i < t.place.size),t.place[i]<=t.mask
 few:t.place.size<=18/\(t.mask=31\/(t.mask=7/\t.place.size<=4))
 pl:t.plain=true
 reach:∀ i (h:i < es.size) (h':i < t.place.size),∃ k,sl t.mask es[i].1 k=t.place[i]/\∀ k',k' < k->sl t.mask es[i].1 k'∈t.place
theorem ls':∀ (n:Nat) (l:List Nat),(∀ j,j < n->j∈l)->n<=l.length
 | 0,_,_=>Nat.zero_le _
 | n+1,l,h=>by
  have:=ls' n (l.erase n) fun j hj=>(List.mem_erase_of_ne (by omega)).mpr (h j (by omega))
  rw [List.length_erase_of_mem (h n (by omega))] at this
  have:0 < l.length:=List.length_pos_of_mem (h n (by omega))
  omega
section
variable {t:SetTable}{es:Array (Int×Value)}
theorem TabOk.round (T:TabOk t es):Round t.mask:=by
 rcases T.few.2 with h | h
 ·rw [h];exact round31
 ·rw [h.1];exact round7
theorem TabOk.free (T:TabOk t es) (h:Int):∃ K,K < 10*(t.mask+14)/\sl t.mask h K∉t.place/\∀ k,k < K->sl t.mask h k∈t.place:=by
 have ex:∃ k,k < 10*(t.mask+14)/\sl t.mask h k∉t.place:=by
  apply Classical.byContradiction
  intro no
  have:t.mask+1<=t.place.toList.length:=ls' (t.mask+1) _ fun j hj=>by
   obtain ⟨k,k1,k2⟩:=tu' T.round h hj
   apply Classical.byContradiction
   intro nj
   exact no ⟨k,k1,by rw [k2];simpa using nj⟩
  rw [Array.length_toList] at this
  have:=T.few
  omega
 obtain ⟨k,k1,k2⟩:=ex
 induction k using Nat.strongRecOn with
 | ind k ih =>
  by_cases z:∃ k',k' < k/\sl t.mask h k'∉t.place
  ·obtain ⟨k',a,b⟩:=z
   exact ih k' a (by omega) b
  ·refine ⟨k,k1,k2,fun k' hk'=>?_⟩
   apply Classical.byContradiction
   intro nj
   exact z ⟨k',hk',nj⟩
theorem nl' {m i:Nat} (h:i<=m):i+(runEnd m i - i)<=m:=by
 unfold runEnd
 split<;>omega
theorem iS' (m:Nat) (h:Int):∀ k,(pth m h k).j+(pth m h k).more<=m/\(pth m h k).i<=m
 | 0=>by
  have:bits h % (m+1)<=m:=Nat.le_of_lt_succ (Nat.mod_lt _ (Nat.succ_pos _))
  exact ⟨nl' this,this⟩
 | k+1=>by
  have ih:=iS' m h k
  rw [pth]
  revert ih
  rcases pth m h k with ⟨j,more,i,q,d⟩
  intro ih
  cases more with
  | zero =>
   have:(leap m i q).1<=m:=Nat.le_of_lt_succ (Nat.mod_lt _ (Nat.succ_pos _))
   exact ⟨nl' this,this⟩
  | succ more =>
   dsimp only at ih
   exact ⟨by show j+1+more<=m;omega,ih.2⟩
theorem pC' {xs:Array Nat}{j:Nat} (h:j∈xs):∃ i,∃ h:i < xs.size,xs[i]=j:=by
 obtain ⟨i,hi,e⟩:=Array.getElem_of_mem h
 exact ⟨i,hi,e⟩
theorem lu' (T:TabOk t es){h:Int}{K:Nat} (hK:sl t.mask h K∉t.place) (hk:∀ k,k < K->sl t.mask h k∈t.place):∀ (f k:Nat),k<=K->K - k < f →
  (∃ k' i,∃ hi:i < es.size,∃ hi':i < t.place.size,k<=k'/\k' < K/\t.place[i]=sl t.mask h k'/\es[i].1=h/\probe.go t (hA es) h f (pth t.mask h k)=some (.candidate (sl t.mask h k') i (pth t.mask h (k'+1))) ∧
   ∀ k'',k<=k''->k'' < k'->∀ j (hj:j < es.size) (hj':j < t.place.size),t.place[j]=sl t.mask h k''->es[j].1≠h) ∨
  (probe.go t (hA es) h f (pth t.mask h k)=some (.empty (sl t.mask h K) none)/\∀ k'',k<=k''->k'' < K->∀ j (hj:j < es.size) (hj':j < t.place.size),t.place[j]=sl t.mask h k''->es[j].1≠h)
 | 0,k,h1,h2=>by omega
 | f+1,k,h1,h2=>by
  by_cases z:k=K
  ·subst z
   right
   refine ⟨?_,fun k'' a b=>by omega⟩
   rw [probe.go,show (pth t.mask h k).j=sl t.mask h k from rfl,py' T.ris T.nd hK,j9']
  ·obtain ⟨i,hi,e⟩:=pC' (hk k (by omega))
   have hi2:i < es.size:=by rw [← T.sz];exact hi
   have st:t.slot (pth t.mask h k).j=.live i:=by
    rw [show (pth t.mask h k).j=t.place[i] from e.symm]
    exact j8' T.ris hi
   have only:∀ j (hj':j < t.place.size),t.place[j]=sl t.mask h k->j=i:=fun j hj' ej=>by
    rcases Nat.lt_trichotomy j i with l | l | l
    ·have:=T.ris j i hj' hi l;omega
    ·exact l
    ·have:=T.ris i j hi hj' l;omega
   by_cases same:es[i].1=h
   ·left
    refine ⟨k,i,hi2,hi,Nat.le_refl _,by omega,e,same,?_,fun k'' a b=>by omega⟩
    rw [probe.go,st]
    dsimp only
    rw [ry' hi2,same,if_pos (by simp),lq']
    rfl
   ·have go:probe.go t (hA es) h (f+1) (pth t.mask h k)=probe.go t (hA es) h f (pth t.mask h (k+1)):=by
     rw [probe.go,st]
     dsimp only
     rw [ry' hi2,if_neg (by simpa using same),lq']
    rw [go]
    have here:∀ j (hj:j < es.size) (hj':j < t.place.size),t.place[j]=sl t.mask h k->es[j].1≠h:=fun j hj hj' ej=>by
     have:=only j hj' ej
     subst this
     exact same
    rcases lu' T hK hk f (k+1) (by omega) (by omega) with ⟨k',i',a1,a2,a3,a4,a5,a6,a7,a8⟩ | ⟨a1,a2⟩
    ·refine .inl ⟨k',i',a1,a2,by omega,a4,a5,a6,a7,fun k'' b1 b2 j hj hj' ej=>?_⟩
     by_cases z':k''=k
     ·subst z';exact here j hj hj' ej
     ·exact a8 k'' (by omega) b2 j hj hj' ej
    ·refine .inr ⟨a1,fun k'' b1 b2 j hj hj' ej=>?_⟩
     by_cases z':k''=k
     ·subst z';exact here j hj hj' ej
     ·exact a2 k'' (by omega) b2 j hj hj' ej
theorem e7' {α:Type}{xs:Array α}{p:Nat} (hp:p<=xs.size) (x:α) (i:Nat):(insertAt xs p x)[i]?=if i < p then xs[i]? else if i=p then some x else xs[i - 1]?:=by
 unfold insertAt
 rw [Array.getElem?_append,Array.size_push,Array.size_extract]
 have e:min p xs.size - 0=p:=by omega
 rw [e]
 by_cases h1:i < p
 ·rw [if_pos (by omega),if_pos h1,Array.getElem?_push,Array.size_extract,e,if_neg (by omega),Array.getElem?_extract,if_pos (by omega),Nat.zero_add]
 ·rw [if_neg h1]
  by_cases h2:i=p
  ·rw [if_pos (by omega),if_pos h2,Array.getElem?_push,Array.size_extract,e,if_pos h2]
  ·rw [if_neg (by omega),if_neg h2,Array.getElem?_extract]
   by_cases h3:i - (p+1) < min xs.size xs.size - p
   ·rw [if_pos h3]
    congr 1
    omega
   ·rw [if_neg h3]
    symm
    rw [Array.getElem?_eq_none]
    omega
theorem io' {α:Type}{xs:Array α}{p:Nat} (hp:p<=xs.size) (x:α):(insertAt xs p x).size=xs.size+1:=by
 unfold insertAt
 rw [Array.size_append,Array.size_push,Array.size_extract,Array.size_extract]
 omega
theorem nm' {α:Type}{xs:Array α}{p:Nat} (hp:p<=xs.size) (x y:α):y∈insertAt xs p x↔y=x\/y∈xs:=by
 constructor
 ·intro h
  obtain ⟨i,e⟩:=Array.mem_iff_getElem?.mp h
  rw [e7' hp] at e
  split at e
  ·exact .inr (Array.mem_of_getElem? e)
  ·split at e
   ·cases e;exact .inl rfl
   ·exact .inr (Array.mem_of_getElem? e)
 ·rintro (rfl | h)
  ·refine Array.mem_iff_getElem?.mpr ⟨p,?_⟩
   rw [e7' hp,if_neg (by omega),if_pos rfl]
  ·obtain ⟨i,e⟩:=Array.mem_iff_getElem?.mp h
   by_cases z:i < p
   ·exact Array.mem_iff_getElem?.mpr ⟨i,by rw [e7' hp,if_pos z];exact e⟩
   ·exact Array.mem_iff_getElem?.mpr ⟨i+1,by rw [e7' hp,if_neg (by omega),if_neg (by omega)];exact e⟩
theorem tv' (T:TabOk t es){h:Int}{x:Value}{K:Nat} (hK:sl t.mask h K∉t.place) (hk:∀ k,k < K->sl t.mask h k∈t.place) :
  let q:=t.put (sl t.mask h K)
  q.1.dummies=#[]/\Ris q.1.place/\q.1.place.size=(insertAt es q.2 (h,x)).size/\(∀ i (h:i < q.1.place.size),q.1.place[i]<=q.1.mask)/\q.1.mask=t.mask/\q.1.plain=t.plain/\q.1.led=t.led/\q.1.moves=t.moves/\q.1.place.size=t.place.size+1/\q.2<=es.size ∧
   (∀ i (h1:i < (insertAt es q.2 (h,x)).size) (h2:i < q.1.place.size),∃ k,sl q.1.mask (insertAt es q.2 (h,x))[i].1 k=q.1.place[i]/\∀ k',k' < k->sl q.1.mask (insertAt es q.2 (h,x))[i].1 k'∈q.1.place):=by
 intro q
 obtain ⟨b1,b2,b3⟩:=gi' T.ris (sl t.mask h K)
 have q2:q.2=below t.place (sl t.mask h K):=rfl
 have q1:q.1.place=insertAt t.place (below t.place (sl t.mask h K)) (sl t.mask h K):=rfl
 have hp:q.2<=es.size:=by rw [q2,← T.sz];exact b1
 have nh:has t.dummies (sl t.mask h K)=false:=by rw [T.nd];rfl
 have qd:q.1.dummies=#[]:=by
  show (if has t.dummies (sl t.mask h K)=true then _ else t.dummies)=_
  rw [nh,if_neg Bool.false_ne_true];exact T.nd
 have get:∀ i (h2:i < q.1.place.size),(i < q.2/\∃ hi:i < t.place.size,q.1.place[i]=t.place[i])\/(i=q.2/\q.1.place[i]=sl t.mask h K)\/(q.2 < i/\∃ hi:i - 1 < t.place.size,q.1.place[i]=t.place[i - 1]):=fun i h2=>by
  have e:=e7' (x:=sl t.mask h K) b1 i
  rw [← q1,← q2,Array.getElem?_eq_getElem h2] at e
  by_cases z1:i < q.2
  ·rw [if_pos z1] at e
   obtain ⟨hi,e⟩:=Array.getElem?_eq_some_iff.mp e.symm
   exact .inl ⟨z1,hi,e.symm⟩
  ·rw [if_neg z1] at e
   by_cases z2:i=q.2
   ·rw [if_pos z2] at e
    exact .inr (.inl ⟨z2,Option.some.inj e⟩)
   ·rw [if_neg z2] at e
    obtain ⟨hi,e⟩:=Array.getElem?_eq_some_iff.mp e.symm
    exact .inr (.inr ⟨by omega,hi,e.symm⟩)
 have sz:q.1.place.size=t.place.size+1:=by rw [q1];exact io' b1 _
 have ne:∀ i (hi:i < t.place.size),t.place[i]≠sl t.mask h K:=fun i hi z=>hK (by rw [← z];exact Array.getElem_mem hi)
 refine ⟨qd,?_,by rw [sz,io' hp,T.sz],?_,rfl,rfl,rfl,rfl,sz,hp,?_⟩
 ·intro i j hi hj lt
  rcases get i hi with ⟨a1,a2,a3⟩ | ⟨a1,a3⟩ | ⟨a1,a2,a3⟩<;>rcases get j hj with ⟨c1,c2,c3⟩ | ⟨c1,c3⟩ | ⟨c1,c2,c3⟩
  ·rw [a3,c3];exact T.ris i j a2 c2 lt
  ·rw [a3,c3];exact b2 i a2 (by omega)
  ·rw [a3,c3]
   have:=b2 i a2 (by omega)
   have:=b3 (j - 1) c2 (by omega)
   omega
  ·omega
  ·omega
  ·rw [a3,c3]
   have:=b3 (j - 1) c2 (by omega)
   have:=ne (j - 1) c2
   omega
  ·omega
  ·omega
  ·rw [a3,c3];exact T.ris (i - 1) (j - 1) a2 c2 (by omega)
 ·intro i hi
  show _<=t.mask
  rcases get i hi with ⟨a1,a2,a3⟩ | ⟨a1,a3⟩ | ⟨a1,a2,a3⟩
  ·rw [a3];exact T.low _ _
  ·rw [a3];have:=(iS' t.mask h K).1;unfold sl;omega
  ·rw [a3];exact T.low _ _
 ·intro i h1 h2
  have memI:∀ y,y∈t.place->y∈q.1.place:=fun y hy=>by rw [q1];exact (nm' b1 _ _).mpr (.inr hy)
  have e:=e7' (x:=(h,x)) hp i
  rw [Array.getElem?_eq_getElem h1] at e
  show ∃ k,sl t.mask _ k=_/\∀ k',k' < k->sl t.mask _ k'∈_
  rcases get i h2 with ⟨a1,a2,a3⟩ | ⟨a1,a3⟩ | ⟨a1,a2,a3⟩
  ·rw [if_pos a1] at e
   obtain ⟨hi,e⟩:=Array.getElem?_eq_some_iff.mp e.symm
   obtain ⟨k,k1,k2⟩:=T.reach i hi a2
   rw [← e,a3]
   exact ⟨k,k1,fun k' hk'=>memI _ (k2 k' hk')⟩
  ·rw [if_neg (by omega),if_pos a1] at e
   rw [Option.some.inj e,a3]
   exact ⟨K,rfl,fun k' hk'=>memI _ (hk k' hk')⟩
  ·rw [if_neg (by omega),if_neg (by omega)] at e
   obtain ⟨hi,e⟩:=Array.getElem?_eq_some_iff.mp e.symm
   obtain ⟨k,k1,k2⟩:=T.reach (i - 1) hi a2
   rw [← e,a3]
   exact ⟨k,k1,fun k' hk'=>memI _ (k2 k' hk')⟩
end
end DL
namespace DL
open PySem PySem.SetTable
def tak (o:Array (Option Nat)) (j:Nat):Bool:=(o.getD j (some 0)).isSome
theorem nn' {m:Nat}{o:Array (Option Nat)}{h:Int}:∀ (f c i p:Nat),pth m h c=hd m i p →
  (∃ k,c<=k/\layClean.free m o f i p=some (sl m h k)/\tak o (sl m h k)=false/\∀ k',c<=k'->k' < k->tak o (sl m h k')=true)\/(∀ n,n < f->tak o (lp m n i p).1=true)
 | 0,c,i,p,e=>.inr fun n h=>by omega
 | f+1,c,i,p,e=>by
  have run:=fun d hd'=>jr' e d hd'
  have at':∀ d,d<=runEnd m i - i->sl m h (c+d)=i+d:=fun d hd'=>by unfold sl;rw [run d hd']
  have up:i<=runEnd m i:=by unfold runEnd;split<;>omega
  rw [layClean.free]
  cases hf:(List.range (runEnd m i+1 - i)).find? fun k=>(o.getD (i+k) (some 0)).isNone with
  | some d =>
   obtain ⟨d1,d2,d3⟩:=List.find?_range_eq_some.mp hf
   rw [List.mem_range] at d2
   left
   refine ⟨c+d,by omega,?_,?_,fun k' a b=>?_⟩
   ·dsimp only
    rw [at' d (by omega)]
   ·rw [at' d (by omega)]
    unfold tak
    cases x:o.getD (i+d) (some 0) with
    | none=>rfl
    | some v=>rw [x] at d1;cases d1
   ·obtain ⟨d',rfl⟩:∃ d',k'=c+d':=⟨k' - c,by omega⟩
    rw [at' d' (by omega)]
    have:=d3 d' (by omega)
    unfold tak
    cases x:o.getD (i+d') (some 0) with
    | none=>rw [x] at this;cases this
    | some v=>rfl
  | none =>
   have no:=List.find?_range_eq_none.mp hf
   have all:∀ k',c<=k'->k' < c+(runEnd m i - i)+1->tak o (sl m h k')=true:=fun k' a b=>by
    obtain ⟨d',rfl⟩:∃ d',k'=c+d':=⟨k' - c,by omega⟩
    rw [at' d' (by omega)]
    have:=no d' (by omega)
    unfold tak
    cases x:o.getD (i+d') (some 0) with
    | none=>rw [x] at this;cases this
    | some v=>rfl
   dsimp only
   rcases nn' (o:=o) f _ _ _ (lr' e) with ⟨k,k1,k2,k3,k4⟩ | rest
   ·left
    refine ⟨k,by omega,k2,k3,fun k' a b=>?_⟩
    by_cases z:k' < c+(runEnd m i - i)+1
    ·exact all k' a z
    ·exact k4 k' (by omega) b
   ·right
    intro n hn
    cases n with
    | zero =>
     have:=all c (Nat.le_refl _) (by omega)
     rw [← Nat.add_zero c,at' 0 (by omega)] at this
     exact this
    | succ n =>
     rw [lp]
     exact rest n (by omega)
theorem fy':∀ (k:Nat) (l:List Nat),l.Nodup->(∀ x∈l,x < k)->l.length<=k
 | 0,l,_,h=>by
  cases l with
  | nil=>exact Nat.le_refl _
  | cons x l=>exact absurd (h x List.mem_cons_self) (Nat.not_lt_zero _)
 | k+1,l,nd,h=>by
  by_cases z:k∈l
  ·have:=fy' k (l.erase k) (nd.erase k) fun x hx=>by
    have h1:=h x (List.mem_of_mem_erase hx)
    have h2:x≠k:=fun e=>by
     subst e
     exact (List.Nodup.not_mem_erase nd) hx
    omega
   rw [List.length_erase_of_mem z] at this
   omega
  ·have:=fy' k l nd fun x hx=>by
    have h1:=h x hx
    have h2:x≠k:=fun e=>z (e▸hx)
    omega
   omega
structure Laid (m:Nat) (hs:List Int) (o:Array (Option Nat)) (k:Nat):Prop where
 sz:o.size=m+1
 old:∀ (j v:Nat),o[j]?=some (some v)->v < k
 one:∀ (j j' v:Nat),o[j]?=some (some v)->o[j']?=some (some v)->j=j'
 way:∀ (v:Nat),v < k->∃ (j c:Nat),o[j]?=some (some v)/\sl m (hs.getD v 0) c=j/\∀ c',c' < c->tak o (sl m (hs.getD v 0) c')=true
theorem Laid.room {m:Nat}{hs:List Int}{o:Array (Option Nat)}{k:Nat} (L:Laid m hs o k) (hk:k<=m):∃ j,j < m+1/\tak o j=false:=by
 apply Classical.byContradiction
 intro no
 have all:∀ j,j < m+1->∃ v,o[j]?=some (some v):=fun j hj=>by
  have t:tak o j=true:=by
   cases x:tak o j with
   | true=>rfl
   | false=>exact absurd ⟨j,hj,x⟩ no
  unfold tak at t
  rw [Array.getD,dif_pos (by rw [L.sz];exact hj)] at t
  rw [Array.getElem?_eq_getElem (by rw [L.sz];exact hj)]
  cases x:o[j]'(by rw [L.sz];exact hj) with
  | none=>simp [x] at t
  | some v=>exact ⟨v,rfl⟩
 have nd:((List.range (m+1)).map fun j=>((o[j]?).bind id).getD 0).Nodup:=by
  unfold List.Nodup
  rw [List.pairwise_map]
  refine List.Pairwise.imp_of_mem ?_ List.nodup_range
  intro a b ha hb ne e
  obtain ⟨v,hv⟩:=all a (List.mem_range.mp ha)
  obtain ⟨v',hv'⟩:=all b (List.mem_range.mp hb)
  rw [hv,hv'] at e
  have e:v=v':=e
  subst e
  exact ne (L.one a b v hv hv')
 have:=fy' k _ nd fun x hx=>by
  obtain ⟨j,hj,rfl⟩:=List.mem_map.mp hx
  obtain ⟨v,hv⟩:=all j (List.mem_range.mp hj)
  rw [hv]
  exact L.old j v hv
 rw [List.length_map,List.length_range] at this
 omega
theorem Laid.step {m:Nat} (R:Round m){hs:List Int}{o:Array (Option Nat)}{k:Nat} (L:Laid m hs o k) (hk:k<=m):∃ j,layClean.free m o (turns m) (bits (hs.getD k 0) % (m+1)) (bits (hs.getD k 0))=some j/\Laid m hs (o.setIfInBounds j (some k)) (k+1):=by
 rcases nn' (m:=m) (o:=o) (h:=hs.getD k 0) (turns m) 0 _ _ rfl with ⟨K,_,k2,k3,k4⟩ | full
 ·refine ⟨_,k2,?_⟩
  have hj:sl m (hs.getD k 0) K < o.size:=by
   rw [L.sz]
   have:=(iS' m (hs.getD k 0) K).1
   unfold sl
   omega
  have free:o[sl m (hs.getD k 0) K]?=some none:=by
   unfold tak at k3
   rw [Array.getD_eq_getD_getElem?,Array.getElem?_eq_getElem hj] at k3
   rw [Array.getElem?_eq_getElem hj]
   cases x:o[sl m (hs.getD k 0) K] with
   | none=>rfl
   | some v=>rw [x] at k3;cases k3
  have get:∀ i,(o.setIfInBounds (sl m (hs.getD k 0) K) (some k))[i]?=if sl m (hs.getD k 0) K=i then some (some k) else o[i]?:=fun i=>by
   rw [Array.getElem?_setIfInBounds]
   split
   ·rename_i e
    subst e
    simp [hj]
   ·rfl
  have more:∀ i,tak o i=true->tak (o.setIfInBounds (sl m (hs.getD k 0) K) (some k)) i=true:=fun i hi=>by
   unfold tak at hi ⊢
   rw [Array.getD_eq_getD_getElem?] at hi ⊢
   rw [get]
   split
   ·rfl
   ·exact hi
  refine ⟨by rw [Array.size_setIfInBounds];exact L.sz,fun j v e=>?_,fun j j' v e e'=>?_,fun v hv=>?_⟩
  ·rw [get] at e
   split at e
   ·cases e;omega
   ·have:=L.old j v e;omega
  ·rw [get] at e e'
   split at e
   ·cases e
    split at e'
    ·omega
    ·have:=L.old j' k e';omega
   ·split at e'
    ·cases e'
     have:=L.old j k e;omega
    ·exact L.one j j' v e e'
  ·by_cases z:v=k
   ·subst z
    exact ⟨_,K,by rw [get,if_pos rfl],rfl,fun c' hc'=>more _ (k4 c' (Nat.zero_le _) hc')⟩
   ·obtain ⟨j,c,e1,e2,e3⟩:=L.way v (by omega)
    refine ⟨j,c,?_,e2,fun c' hc'=>more _ (e3 c' hc')⟩
    rw [get,if_neg ?_]
    ·exact e1
    ·intro e
     subst e
     rw [free] at e1
     cases e1
 ·obtain ⟨j,hj,tj⟩:=L.room hk
  obtain ⟨n,n1,n2⟩:=pB' R (hs.getD k 0) hj
  have:=full n (by unfold turns;omega)
  rw [n2,tj] at this
  cases this
theorem mw' {m:Nat} (R:Round m) (hs:List Int) (hm:hs.length<=m):∃ o,layClean m hs.toArray=some o/\Laid m hs o hs.length:=by
 unfold layClean
 rw [← Array.foldl_toList]
 have key:∀ (l pre:List Int) (o:Array (Option Nat)),hs=pre++l->Laid m hs o pre.length->∃ o',List.foldl (fun acc h=>do
   let (owner,k) ← acc
   let j ← layClean.free m owner (turns m) (bits h % (m+1)) (bits h)
   pure (owner.setIfInBounds j (some k),k+1)) (some (o,pre.length)) l=some (o',hs.length)/\Laid m hs o' hs.length:=by
  intro l
  induction l with
  | nil =>
   intro pre o e L
   rw [List.append_nil] at e
   subst e
   exact ⟨o,rfl,L⟩
  | cons h l ih =>
   intro pre o e L
   have gk:hs.getD pre.length 0=h:=by rw [e,List.getD_eq_getElem?_getD];simp
   have lk:pre.length<=m:=by
    have:=congrArg List.length e
    simp at this
    omega
   obtain ⟨j,j1,j2⟩:=L.step R lk
   rw [gk] at j1
   obtain ⟨o',h1,h2⟩:=ih (pre++[h]) (o.setIfInBounds j (some pre.length)) (by rw [e];simp) (by simpa using j2)
   refine ⟨o',?_,h2⟩
   rw [List.foldl_cons,← h1]
   congr 1
   show (layClean.free m o (turns m) (bits h % (m+1)) (bits h)).bind _=_
   rw [j1]
   simp
 have none':∀ (j v:Nat),(Array.replicate (m+1) (none:Option Nat))[j]?=some (some v)->False:=fun j v e=>by
  rw [Array.getElem?_replicate] at e
  split at e
  ·cases e
  ·cases e
 obtain ⟨o',h1,h2⟩:=key hs [] (Array.replicate (m+1) none) rfl ⟨by simp,fun j v e=>(none' j v e).elim,fun j j' v e=>(none' j v e).elim,fun v hv=>absurd hv (Nat.not_lt_zero _)⟩
 exact ⟨o',by
  have:=congrArg (Option.map (·.1)) h1
  exact this,h2⟩
theorem r9' {es:Array (Int×Value)} (few:es.size<=18) (finger moves:Nat) (led:Bool):∃ t order,laid 31 finger moves led true (es.map (·.1))=some (t,order)/\(order.filterMap (es[·]?)).size=es.size/\TabOk t (order.filterMap (es[·]?))/\t.mask=31/\t.led=led ∧
  (∀ x,x∈order.filterMap (es[·]?)↔x∈es):=by
 obtain ⟨o,h1,L⟩:=mw' round31 (es.map (·.1)).toList (by simp;omega)
 rw [Array.toArray_toList] at h1
 have nl:(es.map (·.1)).toList.length=es.size:=by simp
 rw [nl] at L
 obtain ⟨live,elive⟩:∃ live:List (Nat×Nat),live=(List.range 32).filterMap fun j=>(o.getD j none).map (j,·):=⟨_,rfl⟩
 have mem:∀ j v,(j,v)∈live↔o[j]?=some (some v):=fun j v=>by
  rw [elive,List.mem_filterMap]
  constructor
  ·rintro ⟨a,ha,e⟩
   rw [Array.getD_eq_getD_getElem?] at e
   cases x:o[a]? with
   | none=>rw [x] at e;cases e
   | some w =>
    rw [x] at e
    cases w with
    | none=>cases e
    | some w=>cases e;exact x
  ·intro e
   have:=(Array.getElem?_eq_some_iff.mp e).1
   refine ⟨j,List.mem_range.mpr (by rw [L.sz] at this;exact this),?_⟩
   rw [Array.getD_eq_getD_getElem?,e]
   rfl
 have ris:live.Pairwise fun a b=>a.1 < b.1:=by
  rw [elive,List.pairwise_filterMap]
  refine List.Pairwise.imp ?_ List.pairwise_lt_range
  intro a b lt x hx y hy
  cases e:o.getD a none with
  | none=>rw [e] at hx;cases hx
  | some v =>
   rw [e] at hx
   cases hx
   cases e':o.getD b none with
   | none=>rw [e'] at hy;cases hy
   | some v'=>rw [e'] at hy;cases hy;exact lt
 have snd:(live.map (·.2)).Nodup:=by
  unfold List.Nodup
  rw [List.pairwise_map]
  refine List.Pairwise.imp_of_mem ?_ ris
  intro a b ha hb lt e
  have h1:=(mem a.1 a.2).mp ha
  have h2:=(mem b.1 b.2).mp hb
  rw [e] at h1
  have:=L.one _ _ _ h1 h2
  omega
 have lo:live.length=es.size:=by
  refine Nat.le_antisymm ?_ ?_
  ·have:=fy' es.size (live.map (·.2)) snd fun x hx=>by
    obtain ⟨q,hq,rfl⟩:=List.mem_map.mp hx
    exact L.old q.1 q.2 ((mem _ _).mp hq)
   simpa using this
  ·have:=ls' es.size (live.map (·.2)) fun v hv=>by
    obtain ⟨j,c,e,_⟩:=L.way v hv
    exact List.mem_map.mpr ⟨(j,v),(mem j v).mpr e,rfl⟩
   simpa using this
 have low:∀ q∈live,q.2 < es.size:=fun q hq=>L.old q.1 q.2 ((mem _ _).mp hq)
 have out:((live.map (·.2)).toArray.filterMap (es[·]?)).toList=live.map fun q=>es[q.2]?.getD (0,Value.none):=by
  rw [Array.toList_filterMap]
  show (live.map (·.2)).filterMap (es[·]?)=_
  clear lo snd ris mem elive
  induction live with
  | nil=>rfl
  | cons q live ih =>
   have hq:=low q List.mem_cons_self
   rw [List.map_cons,List.filterMap_cons,Array.getElem?_eq_getElem hq,List.map_cons,Array.getElem?_eq_getElem hq]
   rw [ih fun q hq=>low q (List.mem_cons_of_mem _ hq)]
   rfl
 refine ⟨{ mask:=31,place:=(live.map (·.1)).toArray,dummies:=#[],finger,led,moves,plain:=true },(live.map (·.2)).toArray,?_,?_,?_,rfl,rfl,fun x=>?_⟩
 ·unfold laid
  rw [h1]
  show some _=some _
  rw [elive]
 ·rw [← Array.length_toList,out,List.length_map,lo]
 ·have osz:((live.map (·.2)).toArray.filterMap (es[·]?)).size=live.length:=by rw [← Array.length_toList,out,List.length_map]
  have oat:∀ i (h1:i < ((live.map (·.2)).toArray.filterMap (es[·]?)).size) (h2:i < live.length),((live.map (·.2)).toArray.filterMap (es[·]?))[i]=es[live[i].2]?.getD (0,Value.none):=fun i h1 h2=>by
   rw [← Array.getElem_toList]
   have:((live.map (·.2)).toArray.filterMap (es[·]?)).toList[i]'(by rw [Array.length_toList];exact h1)=(live.map fun q=>es[q.2]?.getD (0,Value.none))[i]'(by simpa using h2):=by
    congr 1
   rw [this,List.getElem_map]
  refine ⟨rfl,fun i j hi hj lt=>?_,?_,fun i hi=>?_,⟨?_,.inl rfl⟩,rfl,fun i h1 h2=>?_⟩
  ·simp at hi hj
   simp only [List.getElem_toArray,List.getElem_map]
   exact (List.pairwise_iff_getElem.mp ris) i j hi hj lt
  ·rw [osz];simp
  ·simp at hi
   simp only [List.getElem_toArray,List.getElem_map]
   have:=(mem live[i].1 live[i].2).mp (List.getElem_mem hi)
   have:=(Array.getElem?_eq_some_iff.mp this).1
   rw [L.sz] at this
   show _<=31
   omega
  ·simp;omega
  ·have h2':i < live.length:=by simpa using h2
   rw [oat i h1 h2']
   simp only [List.getElem_toArray,List.getElem_map]
   have m1:=(mem live[i].1 live[i].2).mp (List.getElem_mem h2')
   have v1:=low live[i] (List.getElem_mem h2')
   obtain ⟨j,c,e1,e2,e3⟩:=L.way live[i].2 v1
   have:j=live[i].1:=L.one _ _ _ e1 m1
   subst this
   have hh:(es.map (·.1)).toList.getD live[i].2 0=es[live[i].2].1:=by
    rw [List.getD_eq_getElem?_getD]
    simp [v1]
   rw [hh] at e2 e3
   rw [Array.getElem?_eq_getElem v1]
   refine ⟨c,e2,fun c' hc'=>?_⟩
   have tk:=e3 c' hc'
   unfold tak at tk
   have lt:=(iS' 31 es[live[i].2].1 c').1
   have lt:sl 31 es[live[i].2].1 c' < o.size:=by rw [L.sz];unfold sl;omega
   rw [Array.getD,dif_pos lt] at tk
   show sl 31 es[live[i].2].1 c'∈_
   cases x:o[sl 31 es[live[i].2].1 c'] with
   | none=>simp [x] at tk
   | some v =>
    have:(sl 31 es[live[i].2].1 c',v)∈live:=(mem _ _).mpr (by rw [Array.getElem?_eq_getElem lt,x])
    simp only [List.mem_toArray,List.mem_map]
    exact ⟨_,this,rfl⟩
 ·rw [← Array.mem_toList_iff,out,List.mem_map]
  constructor
  ·rintro ⟨q,hq,rfl⟩
   rw [Array.getElem?_eq_getElem (low q hq)]
   exact Array.getElem_mem _
  ·intro hx
   obtain ⟨v,hv,rfl⟩:=Array.getElem_of_mem hx
   obtain ⟨j,c,e,_⟩:=L.way v hv
   refine ⟨(j,v),(mem j v).mpr e,?_⟩
   dsimp only
   rw [Array.getElem?_eq_getElem hv]
   rfl
end DL
namespace DL
open PySem PySem.W PySem.Spec PyProof.Rows L2
mutual
def KV (h:Heap):D->Value->Prop
 | .int i,u=>∃ t,u=.int i t
 | .tup ds,u=>∃ a o its e,u=.ref a/\h.get? a=some o/\o.cls=.type "tuple"/\o.data=.seq (its:List Value).toArray e/\KVs h ds its
 | _,_=>False
def KVs (h:Heap):List D->List Value->Prop
 | [],[]=>True
 | d::ds,u::us=>KV h d u/\KVs h ds us
 | _,_=>False
end
mutual
def kyB:D->Bool
 | .int _=>true
 | .tup ds=>kyA ds
 | _=>false
def kyA:List D->Bool
 | []=>true
 | d::ds=>kyB d&&kyA ds
end
section
variable {X:Cx}{pins:List (Addr×Obj)}{σ:L2.St}{H:Hp}{s:Shared}
mutual
theorem n9' (I:Inv X pins σ H s):∀ (d:D) (x:V) (u:Value),kyB d=true->Is X.K H d x->RelV x u->KV s.heap d u
 | .int i,x,u,_,h,r=>by
  rw [ar' h] at r
  obtain ⟨t,rfl⟩:=r
  rw [KV]
  exact ⟨t,rfl⟩
 | .tup ds,x,u,ky,h,r=>by
  obtain ⟨a,xs,rfl,h1,h2⟩:=aD' h
  cases r
  obtain ⟨its,r1,t1,_⟩:=I.tuple h1
  obtain ⟨o,e1,e2,n,e3⟩:=t1
  rw [kyB] at ky
  rw [KV]
  exact ⟨a,o,its,n,rfl,e1,e2,e3,pD' I ds xs its ky h2 r1⟩
 | .non,_,_,ky,_,_=>by simp [kyB] at ky
 | .bl _,_,_,ky,_,_=>by simp [kyB] at ky
 | .str _,_,_,ky,_,_=>by simp [kyB] at ky
 | .lst _,_,_,ky,_,_=>by simp [kyB] at ky
theorem pD' (I:Inv X pins σ H s):∀ (ds:List D) (xs:List V) (us:List Value),kyA ds=true->IsA X.K H ds xs->Vals xs us->KVs s.heap ds us
 | [],xs,us,_,h,r=>by
  have:=h.nil_inv;subst this
  cases r
  rw [KVs];trivial
 | d::ds,xs,us,ky,h,r=>by
  obtain ⟨x,xr,rfl,h1,h2⟩:=h.cons_inv
  cases r with
  | cons r1 r2 =>
   rw [kyA,Bool.and_eq_true] at ky
   rw [KVs]
   exact ⟨n9' I d x _ ky.1 h1 r1,pD' I ds xr _ ky.2 h2 r2⟩
end
end
section
variable {prog:Program}{w:World}{E:Value->Shared->Prop}
mutual
def hD:D->Int
 | .int i=>hashInt i
 | .tup ds=>reduceHash (Builtin.Tuple.tupleHashOf (hDs ds))
 | _=>0
def hDs:List D->List Int
 | []=>[]
 | d::ds=>hD d::hDs ds
end
mutual
theorem no':∀ (d:D) (u:Value) (A:Around) (s:Shared) (Q:Int->Shared->Prop),KV s.heap d u->A.units+dep d < cLine->(∀ tk,Q (hD d) { s with toks:=tk })->wpAny (model prog w) A (pyHash u) Q E s
 | .int i,u,A,s,Q,x,hu,q=>by
  rw [KV] at x
  obtain ⟨t,rfl⟩:=x
  exact wpAny_pyHash_int (by have:=q (s.toks+1);rw [hD] at this;exact this)
 | .tup ds,u,A,s,Q,x,hu,q=>by
  rw [KV] at x
  obtain ⟨a,o,its,e,rfl,x1,x2,x3,x4⟩:=x
  rw [dep] at hu
  refine pyHash_slot (T := "tuple") ⟨o,x1,x2⟩ F.slot_tuple_hash F.entry_tuple_hash (F.args_tuple_hash_1 _) (beq_builtin_none _) (.inr (by omega)) ?_
  refine wpAny_bind (m:=Builtin.Tuple.tupleItemsOf (.ref a)) (wpAny_tupleItemsOf x1 x3 (wpAny_bind ?_))
  rw [← Array.forIn_toList]
  refine lv' ds its A.in1 s #[] _ x4 (by show A.units+1+_ < _;omega) fun tk b hb=>?_
  refine wpAny_bind (m:=mkInt (Builtin.Tuple.tupleHashOf b.toList)) (wpAny_mkInt (wpAny_pure ⟨_,_,rfl,?_⟩))
  rw [hb]
  have:=q (tk+1)
  rw [hD] at this
  exact this
 | .non,_,_,_,_,x,_,_=>by simp [KV] at x
 | .bl _,_,_,_,_,x,_,_=>by simp [KV] at x
 | .str _,_,_,_,_,x,_,_=>by simp [KV] at x
 | .lst _,_,_,_,_,x,_,_=>by simp [KV] at x
theorem lv':∀ (ds:List D) (us:List Value) (A:Around) (s:Shared) (b:Array Int) (Q:Array Int->Shared->Prop),KVs s.heap ds us->A.units+depA ds < cLine->(∀ tk b',b'.toList=b.toList++hDs ds->Q b' { s with toks:=tk }) →
  wpAny (model prog w) A (forIn us b fun x r=>do let h ← pyHash x;pure PUnit.unit;pure (ForInStep.yield (r.push h))) Q E s
 | [],us,A,s,b,Q,x,hu,q=>by
  cases us with
  | cons u us=>simp [KVs] at x
  | nil =>
   rw [List.forIn_nil]
   exact wpAny_pure (q s.toks b (by simp [hDs]))
 | d::ds,us,A,s,b,Q,x,hu,q=>by
  cases us with
  | nil=>simp [KVs] at x
  | cons u us =>
   rw [KVs] at x
   rw [depA] at hu
   rw [List.forIn_cons]
   refine wpAny_bind (wpAny_bind (no' d u A s _ x.1 (by omega) fun tk=>wpAny_bind (wpAny_pure (wpAny_pure ?_))))
   exact lv' ds us A { s with toks:=tk } _ Q x.2 (by omega) fun tk' b' hb=>q tk' b' (by rw [hb,hDs];simp)
end
mutual
theorem ip':∀ (d:D) (u:Value) (n:Nat) (A:Around) (s:Shared) (Q:Bool->Shared->Prop),KV s.heap d u->dep d<=n->Q true s->wpAny (model prog w) A (eqIsQuiet n u) Q E s
 | .int i,u,n,A,s,Q,x,hn,q=>by
  rw [KV] at x
  obtain ⟨t,rfl⟩:=x
  exact wpAny_of_eq (eqIsQuiet_byValue n rfl) q
 | .tup ds,u,n,A,s,Q,x,hn,q=>by
  rw [KV] at x
  obtain ⟨a,o,its,e,rfl,x1,x2,x3,x4⟩:=x
  rw [dep] at hn
  obtain ⟨n,rfl⟩:∃ k,n=k+1:=⟨n - 1,by omega⟩
  have hT:s.TypeIs (.ref a) "tuple":=⟨o,x1,x2⟩
  unfold eqIsQuiet
  refine wpAny_bind (wpAny_specialOf hT F.slot_tuple_eq.lookup ?_)
  refine wpAny_bind (m:=isInstance (.ref a) (.type "tuple")) (wpAny_isInstance hT isSubtype_tuple_tuple ?_)
  simp only [Bool.not_true,Bool.false_eq_true,if_false]
  refine wpAny_bind (wpAny_seqItems x1 x3 (wpAny_bind ?_))
  show wpAny _ _ (forIn its.toArray _ _) _ _ s
  rw [← Array.forIn_toList]
  refine ka' ds its n A s _ x4 (by omega) ?_
  exact wpAny_pure q
 | .non,_,_,_,_,_,x,_,_=>by simp [KV] at x
 | .bl _,_,_,_,_,_,x,_,_=>by simp [KV] at x
 | .str _,_,_,_,_,_,x,_,_=>by simp [KV] at x
 | .lst _,_,_,_,_,_,x,_,_=>by simp [KV] at x
theorem ka':∀ (ds:List D) (us:List Value) (n:Nat) (A:Around) (s:Shared) (Q:Option Bool×PUnit->Shared->Prop),KVs s.heap ds us->depA ds<=n->Q (none,()) s →
  wpAny (model prog w) A (forIn us (none,()) fun y r=>do
   let __do_lift ← eqIsQuiet n y
   if (!__do_lift)=true then pure (ForInStep.done (some false,())) else do pure PUnit.unit;pure (ForInStep.yield (none,()))) Q E s
 | [],us,n,A,s,Q,x,hn,q=>by
  cases us with
  | cons u us=>simp [KVs] at x
  | nil =>
   rw [List.forIn_nil]
   exact wpAny_pure q
 | d::ds,us,n,A,s,Q,x,hn,q=>by
  cases us with
  | nil=>simp [KVs] at x
  | cons u us =>
   rw [KVs] at x
   rw [depA] at hn
   rw [List.forIn_cons]
   refine wpAny_bind (wpAny_bind (ip' d u n A s _ x.1 (by omega) ?_))
   rw [if_neg (by simp)]
   refine wpAny_bind (wpAny_pure (wpAny_pure ?_))
   exact ka' ds us n A s Q x.2 (by omega) q
end
mutual
theorem ir':∀ (d:D) (u:Value) (n:Nat) (A:Around) (s:Shared) (Q:Bool->Shared->Prop),KV s.heap d u->dep d<=n->Q false s->wpAny (model prog w) A (ofAClassStatement n u) Q E s
 | .int i,u,n,A,s,Q,x,hn,q=>by
  rw [KV] at x
  obtain ⟨t,rfl⟩:=x
  unfold ofAClassStatement
  exact wpAny_pure q
 | .tup ds,u,n,A,s,Q,x,hn,q=>by
  rw [KV] at x
  obtain ⟨a,o,its,e,rfl,x1,x2,x3,x4⟩:=x
  rw [dep] at hn
  obtain ⟨n,rfl⟩:∃ k,n=k+1:=⟨n - 1,by omega⟩
  have look:Looks (model prog w) s.heap (typeOf (.ref a)) o.cls:=(Looks.ld x1).andThen .now
  rw [x2] at look
  unfold ofAClassStatement
  refine wpAny_bind (look.here ?_)
  dsimp only
  rw [if_pos (by decide)]
  refine wpAny_bind (wpAny_pure ?_)
  simp only [Bool.not_true,Bool.false_eq_true,if_false]
  refine wpAny_bind (wpAny_seqItems x1 x3 (wpAny_bind ?_))
  show wpAny _ _ (forIn its.toArray _ _) _ _ s
  rw [← Array.forIn_toList]
  refine kb' ds its n A s _ x4 (by omega) ?_
  exact wpAny_pure q
 | .non,_,_,_,_,_,x,_,_=>by simp [KV] at x
 | .bl _,_,_,_,_,_,x,_,_=>by simp [KV] at x
 | .str _,_,_,_,_,_,x,_,_=>by simp [KV] at x
 | .lst _,_,_,_,_,_,x,_,_=>by simp [KV] at x
theorem kb':∀ (ds:List D) (us:List Value) (n:Nat) (A:Around) (s:Shared) (Q:Option Bool×PUnit->Shared->Prop),KVs s.heap ds us->depA ds<=n->Q (none,()) s →
  wpAny (model prog w) A (forIn us (none,()) fun y r=>do
   let __do_lift ← ofAClassStatement n y
   if __do_lift=true then pure (ForInStep.done (some true,())) else do pure PUnit.unit;pure (ForInStep.yield (none,()))) Q E s
 | [],us,n,A,s,Q,x,hn,q=>by
  cases us with
  | cons u us=>simp [KVs] at x
  | nil =>
   rw [List.forIn_nil]
   exact wpAny_pure q
 | d::ds,us,n,A,s,Q,x,hn,q=>by
  cases us with
  | nil=>simp [KVs] at x
  | cons u us =>
   rw [KVs] at x
   rw [depA] at hn
   rw [List.forIn_cons]
   refine wpAny_bind (wpAny_bind (ir' d u n A s _ x.1 (by omega) ?_))
   rw [if_neg Bool.false_ne_true]
   refine wpAny_bind (wpAny_pure (wpAny_pure ?_))
   exact kb' ds us n A s Q x.2 (by omega) q
end
mutual
theorem lw':∀ (d:D) (u:Value) (n:Nat) (A:Around) (s:Shared) (Q:Bool->Shared->Prop),KV s.heap d u->dep d<=n->Q true s->wpAny (model prog w) A (hashByValue n u) Q E s
 | .int i,u,n,A,s,Q,x,hn,q=>by
  rw [KV] at x
  obtain ⟨t,rfl⟩:=x
  unfold hashByValue
  exact wpAny_pure q
 | .tup ds,u,n,A,s,Q,x,hn,q=>by
  rw [KV] at x
  obtain ⟨a,o,its,e,rfl,x1,x2,x3,x4⟩:=x
  rw [dep] at hn
  obtain ⟨n,rfl⟩:∃ k,n=k+1:=⟨n - 1,by omega⟩
  have hT:s.TypeIs (.ref a) "tuple":=⟨o,x1,x2⟩
  unfold hashByValue
  refine wpAny_bind (wpAny_specialOf hT F.slot_tuple_hash.lookup ?_)
  refine wpAny_bind (m:=seqItems? (.ref a)) (wpAny_seqItems x1 x3 (wpAny_bind ?_))
  show wpAny _ _ (forIn its.toArray _ _) _ _ s
  rw [← Array.forIn_toList]
  refine kc' ds its n A s _ x4 (by omega) ?_
  exact wpAny_pure q
 | .non,_,_,_,_,_,x,_,_=>by simp [KV] at x
 | .bl _,_,_,_,_,_,x,_,_=>by simp [KV] at x
 | .str _,_,_,_,_,_,x,_,_=>by simp [KV] at x
 | .lst _,_,_,_,_,_,x,_,_=>by simp [KV] at x
theorem kc':∀ (ds:List D) (us:List Value) (n:Nat) (A:Around) (s:Shared) (Q:Option Bool×PUnit->Shared->Prop),KVs s.heap ds us->depA ds<=n->Q (none,()) s →
  wpAny (model prog w) A (forIn us (none,()) fun y r=>do
   let __do_lift ← hashByValue n y
   if (!__do_lift)=true then pure (ForInStep.done (some false,())) else do pure PUnit.unit;pure (ForInStep.yield (none,()))) Q E s
 | [],us,n,A,s,Q,x,hn,q=>by
  cases us with
  | cons u us=>simp [KVs] at x
  | nil =>
   rw [List.forIn_nil]
   exact wpAny_pure q
 | d::ds,us,n,A,s,Q,x,hn,q=>by
  cases us with
  | nil=>simp [KVs] at x
  | cons u us =>
   rw [KVs] at x
   rw [depA] at hn
   rw [List.forIn_cons]
   refine wpAny_bind (wpAny_bind (lw' d u n A s _ x.1 (by omega) ?_))
   rw [if_neg (by simp)]
   refine wpAny_bind (wpAny_pure (wpAny_pure ?_))
   exact kc' ds us n A s Q x.2 (by omega) q
end
end
end DL
namespace DL
open PySem PySem.W PySem.Spec PyProof.Rows L2 PySem.SetTable
section
variable {prog:Program}{w:World}{A:Around}{E:Value->Shared->Prop}{s:Shared}
theorem TabOk.fits {t:SetTable}{es:Array (Int×Value)} (T:TabOk t es):t.fits es.size=true:=by
 have:=T.few
 have:=T.sz
 unfold SetTable.fits SetTable.fill
 rw [T.nd]
 simp [T.sz]
 omega
theorem TabOk.gave {t:SetTable}{es:Array (Int×Value)} (T:TabOk t es):t.gaveWay=false:=by
 unfold gaveWay
 rcases T.few.2 with h | h
 ·rw [h];decide
 ·rw [h.1];decide
theorem pE' {a:Addr}{o:Obj}{es:Array (Int×Value)}{ep:Nat}{t:SetTable} (ho:s.heap.get? a=some o) (hdt:o.data=.set es ep t) (T:TabOk t es){x:Value}{h:Int}{eqf:Nat->Bool}
  (refs:∀ i (hi:i < es.size),∃ b,es[i].2=.ref b) (eq:∀ i (hi:i < es.size),es[i].1=h->PySem.SeqAt.EqAt A s es[i].2 x (eqf i))
  (seen:t.led=false->∀ Q:Bool->Shared->Prop,Q false s->wpAny (model prog w) A (searchCouldBeSeen x ((es.filter (·.1 == h)).toList.map (·.2))) Q E s)
  {K:Nat} (hK:sl t.mask h K∉t.place) (hk:∀ k,k < K->sl t.mask h k∈t.place) (hK2:K < 10*(t.mask+14)){Q:SetFound->Shared->Prop}
  (found:∀ i (hi:i < es.size),es[i].1=h->eqf i=true->Q (.there none) s) (free:(∀ i (hi:i < es.size),es[i].1=h->eqf i=false)->Q (.free (sl t.mask h K) false) s) :
  ∀ (f k:Nat) (stand:Option Probe),k<=K->K - k < f->stand.getD (t.probeStart h)=pth t.mask h k->(∀ k'',k'' < k->∀ j (hj:j < es.size) (hj':j < t.place.size),t.place[j]=sl t.mask h k''->es[j].1=h->eqf j=false) →
   wpAny (model prog w) A (setSearchFrom a x h true f stand) Q E s:=by
 intro f
 induction f with
 | zero=>intro k stand h1 h2;omega
 | succ f ih =>
  intro k stand h1 h2 hs past
  unfold setSearchFrom
  refine wpAny_bind (wpAny_setState_of ho hdt T.fits ?_)
  dsimp only
  rw [T.gave,if_neg Bool.false_ne_true]
  have pr:∀ m,probe.go t (hA es) h (10*turns t.mask) (pth t.mask h k)=some m->t.probe (W.hashAt es) h (stand.getD (t.probeStart h))=some m:=fun m e=>by
   rw [hs]
   exact e
  rcases lu' T hK hk (10*turns t.mask) k h1 (by unfold turns;omega) with ⟨k',i,hi,hi',a1,a2,a3,a4,a5,a6⟩ | ⟨a1,a2⟩
  ·have e:=pr _ a5
   change t.probe _ h _=_ at e
   have e':t.probe (fun i=>(es[i]?.map (·.1)).getD 0) h (stand.getD (t.probeStart h))=some (.candidate (sl t.mask h k') i (pth t.mask h (k'+1))):=e
   show wpAny _ _ (match t.probe (fun i=>(es[i]?.map (·.1)).getD 0) h (stand.getD (t.probeStart h)) with | some met=>_ | _=>_) _ _ _
   rw [e']
   dsimp only
   obtain ⟨b,eb⟩:=refs i hi
   have gi:es[i]?=some es[i]:=Array.getElem?_eq_getElem hi
   have sli:t.slot (sl t.mask h k')=.live i:=by rw [← a3];exact j8' T.ris hi'
   have eqi:=eq i hi a4
   rw [eb] at eqi
   have ask:t.led=true\/t.led=false:=by cases t.led<;>simp
   rcases ask with led | led
   all_goals
    first
     | (rw [led,Bool.not_true,if_neg Bool.false_ne_true])
     | (rw [led,Bool.not_false,if_pos rfl];refine wpAny_bind (seen led _ ?_);rw [if_neg Bool.false_ne_true])
    rw [gi]
    dsimp only
    rw [eb]
    refine wpAny_bind (wpAny_holding (eqi prog w _ _ (wpAny_bind (wpAny_setState_of ho hdt T.fits ?_))))
    dsimp only
    cases c:eqf i with
    | true =>
     rw [if_pos (by rfl)]
     exact wpAny_pure (found i hi a4 c)
    | false =>
     rw [if_neg (by decide)]
     have sm:t.sameMemory t.moves t.mask=some true:=by unfold sameMemory;simp
     rw [sm]
     dsimp only
     rw [if_pos rfl,sli]
     dsimp only
     rw [gi]
     dsimp only
     rw [eb]
     refine wpAny_bind (wpAny_isSame_ref_self (wpAny_bind (wpAny_pure ?_)))
     rw [if_pos rfl]
     dsimp only
     rw [if_neg Bool.false_ne_true]
     refine ih (k'+1) _ (by omega) (by omega) rfl fun k'' b1 j hj hj' ej hh=>?_
     by_cases z1:k'' < k
     ·exact past k'' z1 j hj hj' ej hh
     ·by_cases z2:k''=k'
      ·have:j=i:=by
        rw [z2,← a3] at ej
        rcases Nat.lt_trichotomy j i with l | l | l
        ·have:=T.ris j i hj' hi' l;omega
        ·exact l
        ·have:=T.ris i j hi' hj' l;omega
       subst this
       exact c
      ·exact absurd hh (a6 k'' (by omega) (by omega) j hj hj' ej)
  ·have e':t.probe (fun i=>(es[i]?.map (·.1)).getD 0) h (stand.getD (t.probeStart h))=some (.empty (sl t.mask h K) none):=pr _ a1
   show wpAny _ _ (match t.probe (fun i=>(es[i]?.map (·.1)).getD 0) h (stand.getD (t.probeStart h)) with | some met=>_ | _=>_) _ _ _
   rw [e']
   dsimp only
   refine wpAny_pure (free fun i hi hh=>?_)
   have hi':i < t.place.size:=by rw [T.sz];exact hi
   obtain ⟨c,c1,c2⟩:=T.reach i hi hi'
   rw [hh] at c1 c2
   have cK:c < K:=by
    rcases Nat.lt_trichotomy c K with l | l | l
    ·exact l
    ·subst l
     exact absurd (by rw [c1];exact Array.getElem_mem hi') hK
    ·exact absurd (c2 K l) hK
   by_cases z:c < k
   ·exact past c z i hi hi' c1.symm hh
   ·exact absurd hh (a2 c (by omega) cK i hi hi' c1.symm)
end
end DL
namespace DL
open PySem PySem.W PySem.Spec PyProof.Rows L2 PySem.SetTable
section
variable {prog:Program}{w:World}{A:Around}{E:Value->Shared->Prop}{s:Shared}
def SetAt (h:Heap) (a:Addr) (led:Bool) (es:Array (Int×Value)):Prop:=∃ o ep t,h.get? a=some o/\o.cls=.type "set"/\o.data=.set es ep t/\TabOk t es/\t.led=led
theorem np' {h:Heap}{a:Addr}{o:Obj}{es es':Array (Int×Value)}{ep:Nat}{t t':SetTable} (ho:h.get? a=some o) (hd:o.data=.set es ep t):(h.update a (Obj.putSet es' t')).get? a=some { o with data:=.set es' (ep+1) t' }:=by
 have e:=putSet_of es' t' hd
 have:=Heap.get?_update_self (Obj.putSet es' t') ho (by rw [e];rfl)
 rw [e] at this
 exact this
theorem tw' {a:Addr}{led:Bool}{es:Array (Int×Value)}{b:Addr}{h:Int}{eqf:Nat->Bool}{Q:Bool->Shared->Prop} (S:SetAt s.heap a led es) (few:(∀ i (hi:i < es.size),es[i].1=h->eqf i=false)->es.size<=17)
  (refs:∀ i (hi:i < es.size),∃ b,es[i].2=.ref b) (eq:∀ i (hi:i < es.size),es[i].1=h->PySem.SeqAt.EqAt A s es[i].2 (.ref b) (eqf i))
  (seen:∀ Q:Bool->Shared->Prop,Q false s->wpAny (model prog w) A (searchCouldBeSeen (.ref b) ((es.filter (·.1 == h)).toList.map (·.2))) Q E s)
  (value:∀ Q:Bool->Shared->Prop,Q true s->wpAny (model prog w) A (hashByValue 8 (.ref b)) Q E s)
  (old:∀ i (hi:i < es.size),es[i].1=h->eqf i=true->Q false s)
  (new:(∀ i (hi:i < es.size),es[i].1=h->eqf i=false)->∀ h' es',SetAt h' a led es'->(∀ e,e∈es'↔e=(h,.ref b)\/e∈es)->es'.size=es.size+1->KeptBut a s.heap h'->Q true { s with heap:=h' }) :
  wpAny (model prog w) A (setAddHashed a (.ref b) h) Q E s:=by
 have line:64<=sizeLine:=by rw [sizeLine_eq];decide
 obtain ⟨o,ep,t,ho,hc,hdt,T,tl⟩:=S
 obtain ⟨K,k1,k2,k3⟩:=T.free h
 have fits:=T.fits
 unfold setAddHashed
 refine wpAny_holding ?_
 unfold setAddHashedIn
 refine wpAny_bind (wpAny_setState_of ho hdt fits ?_)
 dsimp only
 rw [if_neg (by simp [byScan,Value.scannable])]
 unfold setSearch
 refine wpAny_bind (pE' ho hdt T refs eq (fun _=>seen) k2 k3 k1 (fun i hi hh ee=>?_) (fun none'=>?_) 100000 0 none (Nat.zero_le _) ?_ rfl fun k'' z=>by omega)
 ·exact wpAny_pure (old i hi hh ee)
 ·have few:=few none'
  dsimp only
  refine wpAny_bind (wpAny_setState_of ho hdt fits ?_)
  dsimp only
  obtain ⟨p1,p2,p3,p4,p5,p6,p7,p8,p9,p10,p11⟩:=tv' T (h:=h) (x:=.ref b) k2 k3
  obtain ⟨q,eq'⟩:∃ q,q=t.put (sl t.mask h K):=⟨_,rfl⟩
  rw [← eq'] at p1 p2 p3 p4 p5 p6 p7 p8 p9 p10 p11 ⊢
  rw [p6,T.pl,if_pos rfl]
  refine wpAny_bind (value _ ?_)
  rw [if_pos rfl]
  have size':(insertAt es q.2 (h,Value.ref b)).size=es.size+1:=io' p10 _
  refine wpAny_bind (wpAny_storeSet_of ho hdt ?_ (by rw [size'];omega))
  have g1:=np' (es':=insertAt es q.2 (h,Value.ref b)) (t':=q.1) ho hdt
  have keep1:KeptBut a s.heap (s.heap.update a (Obj.putSet (insertAt es q.2 (h,Value.ref b)) q.1)):=fun c u ne e=>(Heap.get?_update_other _ _ (Ne.symm ne)).trans e
  have memI:∀ e,e∈insertAt es q.2 (h,Value.ref b)↔e=(h,.ref b)\/e∈es:=fun e=>nm' p10 _ e
  obtain ⟨h1,eh1⟩:∃ h1,h1=s.heap.update a (Obj.putSet (insertAt es q.2 (h,Value.ref b)) q.1):=⟨_,rfl⟩
  rw [← eh1] at g1 keep1 ⊢
  have fill:q.1.fill=es.size+1:=by
   unfold SetTable.fill
   rw [p1,p9,T.sz]
   rfl
  by_cases full:q.1.tooFull=true
  ·-- laid anew: five things,32 places
   have m7:t.mask=7/\es.size+1=5:=by
    unfold tooFull at full
    rw [fill,p5] at full
    simp only [ge_iff_le,decide_eq_true_eq] at full
    have:=T.few
    have:=T.sz
    rcases this with x
    rcases T.few.2 with m | m
    ·rw [m] at full;omega
    ·rw [m.1] at full;omega
   rw [if_pos (by simp [full])]
   unfold setRelay
   have fits1:q.1.fits (insertAt es q.2 (h,Value.ref b)).size=true:=by
    unfold SetTable.fits
    rw [fill,size',p5,m7.1,p9,T.sz]
    simp
    omega
   refine wpAny_bind (wpAny_bind (wpAny_setState_of (s:={ s with heap:=h1 }) g1 rfl fits1 ?_))
   dsimp only
   have sa:sizeAbove (grown (es.size+1))=32:=by rw [m7.2];decide
   rw [sa,if_neg (by omega)]
   obtain ⟨t2,order,l1,l2,l3,l4,l5,l6⟩:=r9' (es:=insertAt es q.2 (h,Value.ref b)) (by rw [size'];omega) q.1.finger (q.1.movedTo 31) q.1.led
   have rel:q.1.relaid ((insertAt es q.2 (h,Value.ref b)).map (·.1)) (grown (es.size+1))=some (t2,order):=by
    unfold relaid
    rw [sa,p6,T.pl]
    exact l1
   rw [rel]
   refine wpAny_bind (wpAny_of_eq (a:=(order.filterMap ((insertAt es q.2 (h,Value.ref b))[·]?),t2)) ?_ ?_)
   ·show (if ((order.filterMap ((insertAt es q.2 (h,Value.ref b))[·]?)).size != (insertAt es q.2 (h,Value.ref b)).size)=true then _ else pure _)=_
    rw [l2,bne_self_eq_false,if_neg Bool.false_ne_true]
   ·dsimp only
    refine wpAny_storeSet_of g1 rfl ?_ (by rw [l2,size'];omega)
    refine wpAny_pure (new none' _ _ ⟨_,_,t2,np' g1 rfl,hc,rfl,l3,by rw [l5,p7,tl]⟩ (fun e=>(l6 e).trans (memI e)) (by rw [l2,size']) fun c u ne e=>(Heap.get?_update_other _ _ (Ne.symm ne)).trans (keep1 c u ne e))
  ·rw [if_neg (by simp [full])]
   refine wpAny_pure (new none' h1 _ ⟨_,_,q.1,g1,hc,rfl,⟨p1,p2,p3,p4,?_,by rw [p6];exact T.pl,p11⟩,by rw [p7,tl]⟩ memI size' keep1)
   unfold tooFull at full
   rw [fill,p5] at full
   simp only [ge_iff_le,decide_eq_true_eq] at full
   have:=T.sz
   rw [p9,p5]
   refine ⟨by omega,?_⟩
   rcases T.few.2 with m | m
   ·exact .inl m
   ·refine .inr ⟨m.1,?_⟩
    rw [m.1] at full
    omega
 ·rcases T.few.2 with m | m
  ·rw [m] at k1;omega
  ·rw [m.1] at k1;omega
end
end DL
namespace DL
open PySem PySem.W PySem.Spec PyProof.Rows L2 PySem.SetTable
def dstep (acc:List D) (d:D):List D:=if acc.any (fun e=>deq e d)=true then acc else acc++[d]
def dd (ds:List D):List D:=ds.foldl dstep []
theorem pF' (acc:List D) (d:D):acc.length<=(dstep acc d).length:=by
 unfold dstep
 split
 ·exact Nat.le_refl _
 ·simp
theorem lx':∀ (ds acc:List D),acc.length<=(ds.foldl dstep acc).length
 | [],acc=>Nat.le_refl _
 | d::ds,acc=>Nat.le_trans (pF' acc d) (lx' ds _)
theorem sa' (ds:List D){i:Nat} (h:i < ds.length):dd (ds.take (i+1))=dstep (dd (ds.take i)) ds[i]:=by
 unfold dd
 rw [List.take_succ,List.foldl_append,List.getElem?_eq_getElem h]
 rfl
theorem mx' (ds:List D) (i:Nat):(dd (ds.take i)).length<=(dd ds).length:=by
 unfold dd
 conv=>rhs;rw [← List.take_append_drop i ds,List.foldl_append]
 exact lx' _ _
theorem ly' {d:D}:∀ (ds acc:List D),d∈ds.foldl dstep acc->d∈acc\/d∈ds
 | [],acc,h=>.inl h
 | e::ds,acc,h=>by
  rcases ly' ds _ h with h | h
  ·unfold dstep at h
   split at h
   ·exact .inl h
   ·rcases List.mem_append.mp h with h | h
    ·exact .inl h
    ·exact .inr (by rw [List.mem_singleton.mp h];exact List.mem_cons_self)
  ·exact .inr (List.mem_cons_of_mem _ h)
theorem gW' {ds:List D}{d:D} (h:d∈dd ds):d∈ds:=by
 rcases ly' ds [] h with h | h
 ·cases h
 ·exact h
section
variable {X:Cx}{pins:List (Addr×Obj)}{σ:L2.St}{H:Hp}{s0 s:Shared}{prog:Program}{w:World}{A:Around}{E:Value->Shared->Prop}
def Stn (X:Cx) (H:Hp) (e:Int×Value) (d:D):Prop:=e.1=hD d/\∃ x,Is X.K H d x/\RelV x e.2
def EsOk (X:Cx) (H:Hp) (es:Array (Int×Value)) (L:List D):Prop:=es.size=L.length/\(∀ e∈es,∃ d∈L,Stn X H e d)/\∀ d∈L,∃ e∈es,Stn X H e d
def isT:D->Bool
 | .tup _=>true
 | _=>false
theorem iT' {d:D}{x:V}{u:Value} (ht:isT d=true) (h:Is X.K H d x) (r:RelV x u):∃ b,x=.ref b/\u=.ref b:=by
 cases d<;>simp [isT] at ht
 obtain ⟨a,xs,rfl,h1,h2⟩:=aD' h
 cases r
 exact ⟨a,rfl,rfl⟩
theorem Stn.det (I:Inv X pins σ H s){e:Int×Value}{d d':D} (h:isT d=true) (h':isT d'=true) (x:Stn X H e d) (y:Stn X H e d'):d=d':=by
 obtain ⟨_,v,a1,a2⟩:=x
 obtain ⟨_,v',b1,b2⟩:=y
 obtain ⟨b,rfl,e1⟩:=iT' h a1 a2
 obtain ⟨b',rfl,e2⟩:=iT' h' b1 b2
 rw [e1] at e2
 cases e2
 exact gL' I a1 b1
theorem sb' {x:Value}{d:D} (hx:KV s.heap d x) (dx:dep d<=8):∀ (ys:List Value) (Q:Bool->Shared->Prop),(∀ y∈ys,∃ e,KV s.heap e y/\dep e<=8)->Q false s->wpAny (model prog w) A (searchCouldBeSeen x ys) Q E s:=by
 intro ys Q hy q
 unfold searchCouldBeSeen
 refine wpAny_bind ?_
 have key:∀ (ys:List Value) (R:Option Bool×PUnit->Shared->Prop) (body:Value->Option Bool×PUnit->Sem (ForInStep (Option Bool×PUnit))),(∀ y∈ys,∀ R':ForInStep (Option Bool×PUnit)->Shared->Prop,R' (.yield (none,())) s->wpAny (model prog w) A (body y (none,())) R' E s)->R (none,()) s →
   wpAny (model prog w) A (forIn ys (none,()) body) R E s:=by
  intro ys R body hb r
  induction ys with
  | nil=>rw [List.forIn_nil];exact wpAny_pure r
  | cons y ys ih =>
   rw [List.forIn_cons]
   exact wpAny_bind (hb y List.mem_cons_self _ (ih fun z hz=>hb z (List.mem_cons_of_mem _ hz)))
 refine key ys _ _ (fun y hym R' r'=>?_) (wpAny_pure q)
 obtain ⟨e,ky,ke⟩:=hy y hym
 dsimp only
 split
 all_goals
  split
  ·exact wpAny_pure r'
  ·refine wpAny_bind (ip' d _ 8 A s _ hx dx ?_)
   rw [if_neg (by simp)]
   refine wpAny_bind (ip' e _ 8 A s _ ky ke ?_)
   rw [if_neg (by simp)]
   refine wpAny_bind (ir' d _ 8 A s _ hx dx ?_)
   rw [if_neg Bool.false_ne_true]
   refine wpAny_bind (ir' e _ 8 A s _ ky ke ?_)
   rw [if_neg Bool.false_ne_true]
   exact wpAny_pure r'
end
end DL
namespace DL
open PySem PySem.W PySem.Spec PyProof.Rows L2 PySem.SetTable
section
variable {X:Cx}{pins:List (Addr×Obj)}{σ:L2.St}{H:Hp}{s0 s:Shared}{prog:Program}{w:World}{A:Around}{E:Value->Shared->Prop}
def Ext (s0 s:Shared):Prop:=∃ h tk,s={ s0 with heap:=h,toks:=tk }/\∀ b o,s0.heap.get? b=some o->h.get? b=some o
theorem Ext.inv (I:Inv X pins σ H s0) (e:Ext s0 s):Inv X pins σ H s:=by
 obtain ⟨h,tk,rfl,k⟩:=e
 exact I.kept (t':=tk) k
theorem Ext.next (e:Ext s0 s){h':Heap}{tk:Nat} (k:∀ b o,b < s0.heap.objs.size->s.heap.get? b=some o->h'.get? b=some o):Ext s0 { s with heap:=h',toks:=tk }:=by
 obtain ⟨h,t,rfl,k0⟩:=e
 exact ⟨h',tk,rfl,fun b o x=>k b o (Heap.lt_size x) (k0 b o x)⟩
def SetOk (ds:List D):Prop:=cmAll ds=true/\ds.all kyB=true/\ds.all isT=true/\depA ds<=8/\(dd ds).length<=18
theorem SetAt.kept {h h':Heap}{a:Addr}{led:Bool}{es:Array (Int×Value)} (S:SetAt h a led es) (k:∀ o,h.get? a=some o->h'.get? a=some o):SetAt h' a led es:=by
 obtain ⟨o,ep,t,r1,r2⟩:=S
 exact ⟨o,ep,t,k _ r1,r2⟩
theorem Stn.up {J:Hp} (hJ:∀ d x,Is X.K J d x->Is X.K H d x){e:Int×Value}{d:D} (h:Stn X J e d):Stn X H e d:=by
 obtain ⟨h1,x,h2,h3⟩:=h
 exact ⟨h1,x,hJ _ _ h2,h3⟩
theorem qP' (I0:Inv X pins σ H s0){S It:Addr} (hS:s0.heap.objs.size<=S) (hIt:s0.heap.objs.size<=It){fp:List Addr}{n:Nat}{P:Nat->Value->Prop}{St:Nat->Heap->Prop} (W:Walks prog w A.in1 It fp [It] n P St) (hfp:S∉fp)
  {J:Hp} (hJ:∀ d x,Is X.K J d x->Is X.K H d x){ds:List D}{zs:List V} (ha:IsA X.K J ds zs) (ok:SetOk ds) (hn:n=ds.length) (hP:∀ i v,P i v->∃ x,zs[i]?=some x/\RelV x v) (hu:A.units+20 < cLine){led:Bool}{R:Result->Shared->Prop} :
  ∀ (k i:Nat) (s:Shared),n - i=k->i<=n->Ext s0 s->St i s.heap->(∃ es,SetAt s.heap S led es/\EsOk X J es (dd (ds.take i))) →
   (∀ s' es,Ext s0 s'->SetAt s'.heap S led es->EsOk X J es (dd ds)->R (.ok (.ret .none)) s') →
   codeAny (model prog w) A (.builtin "set.update.loop" ⟨[.ref S,.ref It],[]⟩) R s:=by
 obtain ⟨cm,ky,ti,dp,few⟩:=ok
 have neS:S≠It:=fun e=>hfp (by rw [e];exact W.sub It List.mem_cons_self)
 have nb:∀ b,b < s0.heap.objs.size->b∉[It]:=fun b hb h=>by
  rw [List.mem_singleton.mp h] at hb
  exact absurd hIt (Nat.not_le.mpr hb)
 have nbS:∀ b,b < s0.heap.objs.size->b≠S:=fun b hb h=>by
  rw [h] at hb
  exact absurd hS (Nat.not_le.mpr hb)
 intro k
 induction k with
 | zero =>
  intro i s hk hi ex st hset r
  obtain ⟨es,s1,s2⟩:=hset
  have:i=n:=by omega
  subst this
  refine codeAny_builtin F.entry_set_update_loop ?_;rw [Around.under_plainId F.plain_set_update_loop _]
  refine wpAny_bind (m:=pyNext (.ref It)) (W.done s _ _ st fun h' tk keep=>wpAny_pure ?_)
  rw [hn,List.take_length] at s2
  exact r _ es (ex.next fun b o hb x=>keep b o (nb b hb) x) (s1.kept fun o x=>keep S o (by simpa using neS) x) s2
 | succ k ih =>
  intro i s hk hi ex st hset r
  obtain ⟨es,s1,s2⟩:=hset
  have lt:i < ds.length:=by omega
  refine codeAny_builtin F.entry_set_update_loop ?_;rw [Around.under_plainId F.plain_set_update_loop _]
  refine wpAny_bind (m:=pyNext (.ref It)) (W.item i s _ _ (by omega) st fun v h1 tk1 pv st1 keep1=>?_)
  obtain ⟨x,e1,rv⟩:=hP i v pv
  obtain ⟨x',e1',hx⟩:=ha.get (List.getElem?_eq_getElem lt)
  rw [e1] at e1'
  cases e1'
  have dm:ds[i]∈ds:=List.getElem_mem lt
  have td:isT ds[i]=true:=List.all_eq_true.mp ti _ dm
  have dd8:dep ds[i]<=8:=Nat.le_trans (cE' dm) dp
  obtain ⟨b,rfl,rfl⟩:=iT' td hx rv
  have ex1:∀ tk,Ext s0 { s with heap:=h1,toks:=tk }:=fun tk=>ex.next fun b o hb x=>keep1 b o (nb b hb) x
  have s1':SetAt h1 S led es:=s1.kept fun o x=>keep1 S o (by simpa using neS) x
  have I1:=(ex1 tk1).inv I0
  have kvd:=n9' I1 _ _ _ (List.all_eq_true.mp ky _ dm) (hJ _ _ hx) rv
  refine wpAny_bind (m:=holding [.ref b] (setAdd S (.ref b))) (wpAny_holding ?_)
  unfold setAdd
  refine wpAny_holding (wpAny_bind (no' _ _ _ _ _ kvd (by show A.units+1+_ < _;omega) fun tk=>?_))
  have I2:=(ex1 tk).inv I0
  have ch:∀ k,∃ d',∀ hk:k < es.size,d'∈dd (ds.take i)/\Stn X J es[k] d':=fun k=>by
   by_cases hk:k < es.size
   ·obtain ⟨d',m,q⟩:=s2.2.1 es[k] (Array.getElem_mem hk)
    exact ⟨d',fun _=>⟨m,q⟩⟩
   ·exact ⟨.non,fun h=>absurd h hk⟩
  have den:∀ k (hk:k < es.size),(ch k).choose∈dd (ds.take i)/\Stn X J es[k] (ch k).choose:=fun k hk=>(ch k).choose_spec hk
  have sub:∀ d'∈dd (ds.take i),d'∈ds:=fun d' h=>List.mem_of_mem_take (gW' h)
  have cmd:∀ d'∈dd (ds.take i),cmB d' ds[i]=true:=fun d' h=>List.all_eq_true.mp (List.all_eq_true.mp cm _ (sub d' h)) _ dm
  have is':∀ d'∈dd (ds.take i),isT d'=true:=fun d' h=>List.all_eq_true.mp ti _ (sub d' h)
  have dep':∀ d'∈dd (ds.take i),dep d'<=8:=fun d' h=>Nat.le_trans (cE' (sub d' h)) dp
  have kv':∀ d'∈dd (ds.take i),∀ e,Stn X J e d'->KV h1 d' e.2:=fun d' h e q=>by
   obtain ⟨_,y,q1,q2⟩:=q
   exact n9' I2 _ _ _ (List.all_eq_true.mp ky _ (sub d' h)) (hJ _ _ q1) q2
  have none':(∀ k (hk:k < es.size),es[k].1=hD ds[i]->deq (ch k).choose ds[i]=false)->(dd (ds.take i)).any (fun e=>deq e ds[i])=false:=fun hz=>by
   rw [Bool.eq_false_iff]
   intro h
   obtain ⟨d',m,q⟩:=List.any_eq_true.mp h
   obtain ⟨e,m1,q1⟩:=s2.2.2 d' m
   obtain ⟨k,hk,rfl⟩:=Array.getElem_of_mem m1
   have same:=Stn.det I2 (is' _ (den k hk).1) (is' _ m) ((den k hk).2.up hJ) (q1.up hJ)
   have eqd:=gV' _ _ (cmd d' m) q
   have:=hz k hk (by rw [q1.1,eqd])
   rw [same,q] at this
   cases this
  have step:dd (ds.take (i+1))=dstep (dd (ds.take i)) ds[i]:=sa' ds lt
  have cont:∀ h2 es',KeptBut S h1 h2->SetAt h2 S led es'->EsOk X J es' (dd (ds.take (i+1)))->codeAny (model prog w) A (.builtin "set.update.loop" ⟨[.ref S,.ref It],[]⟩) R { s with heap:=h2,toks:=tk }:=fun h2 es' kb sa eo=>by
   refine ih (i+1) _ (by omega) (by omega) ((ex1 tk).next (tk:=tk) fun b o hb x=>kb b o (nbS b hb) x) (W.frame _ _ _ st1 fun b hb o x=>kb b o (fun e=>hfp (e▸hb)) x) ⟨es',sa,eo⟩ r
  refine tw' (s:={ s with heap:=h1,toks:=tk }) (led:=led) (es:=es) (eqf:=fun k=>deq (ch k).choose ds[i]) s1' (fun hz=>?_) (fun k hk=>?_) (fun k hk _=>?_) (fun Q q=>?_) (fun Q q=>lw' _ _ 8 _ _ _ kvd dd8 q) (fun k hk hh ee=>?_) fun hz h2 es' sa mem sz kb=>?_
  ·have l1:=mx' ds (i+1)
   rw [step,dstep,if_neg (by rw [none' hz];exact Bool.false_ne_true),List.length_append,List.length_singleton,← s2.1] at l1
   omega
  ·obtain ⟨m,_,y,q1,q2⟩:=den k hk
   obtain ⟨b',_,e⟩:=iT' (is' _ m) q1 q2
   exact ⟨b',e⟩
  ·obtain ⟨m,_,y,q1,q2⟩:=den k hk
   exact (hH' I2 8 A.in1 (by show A.units+1+8 < _;omega) _ _ _ _ _ _ (.inl (dep' _ m)) (hJ _ _ q1) (hJ _ _ hx) q2 rv).2.1
  ·refine sb' (s:={ s with heap:=h1,toks:=tk }) (d:=ds[i]) kvd dd8 _ _ (fun y hy=>?_) q
   obtain ⟨e,m,rfl⟩:=List.mem_map.mp hy
   have m':e∈es:=(Array.mem_filter.mp (Array.mem_toList_iff.mp m)).1
   obtain ⟨d',m1,q1⟩:=s2.2.1 e m'
   exact ⟨d',kv' d' m1 e q1,dep' d' m1⟩
  ·refine wpAny_pure ⟨plainId_quiet F.plain_set_update_loop _,cont h1 es (fun b o _ x=>x) s1' ?_⟩
   rw [step,dstep,if_pos (List.any_eq_true.mpr ⟨_,(den k hk).1,ee⟩)]
   exact s2
  ·refine wpAny_pure ⟨plainId_quiet F.plain_set_update_loop _,cont h2 es' kb sa ?_⟩
   rw [step,dstep,if_neg (by rw [none' hz];exact Bool.false_ne_true)]
   have own:Stn X J (hD ds[i],.ref b) ds[i]:=⟨rfl,_,hx,rv⟩
   refine ⟨by rw [sz,s2.1];simp,fun e he=>?_,fun d' hd'=>?_⟩
   ·rcases (mem e).mp he with rfl | he
    ·exact ⟨_,by simp,own⟩
    ·obtain ⟨d',m,q⟩:=s2.2.1 e he
     exact ⟨d',List.mem_append_left _ m,q⟩
   ·rcases List.mem_append.mp hd' with h | h
    ·obtain ⟨e,m,q⟩:=s2.2.2 d' h
     exact ⟨e,(mem e).mpr (.inr m),q⟩
    ·rw [List.mem_singleton.mp h]
     exact ⟨_,(mem _).mpr (.inl rfl),own⟩
end
end DL
namespace DL
open PySem PySem.W PySem.Spec PyProof.Rows L2 PySem.SetTable
theorem kd':Manifest.owners.lookup (String.ofList ['r','o','t','a','r','e','t','i','_','t','e','s'].reverse)=some Manifest.sig_set_iterator:=by kernel_rfl
theorem eg':Slot "set_iterator" "__next__" "set_iterator.__next__":=.of (owner := "set_iterator") (n := "__next__") (by rw [typeLookup_type,builtinLookup_eq_fast];kernel_rfl) (by decide +kernel) (by decide +kernel) (by decide +kernel) (by first | exact .inl (by decide +kernel) | exact .inr (by decide +kernel)) (by rw [isSubtype_type];kernel_rfl)
theorem ke':entryFor table "set_iterator.__next__"=some Builtin.«set_iterator.__next__»:=entryFor_of_tree (by kernel_rfl)
theorem lz' (a:Value):argsOk "set_iterator.__next__" ⟨[a],[]⟩:=by
 unfold argsOk
 rw [signature?_of (id := "set_iterator.__next__") (n:=['_','_','t','x','e','n','_','_']) (o:=['r','o','t','a','r','e','t','i','_','t','e','s']) (by kernel_rfl) kd']
 kernel_rfl
theorem js':entryFor table "set.__iter__"=some Builtin.«frozenset.__iter__»:=entryFor_alias (id' := "frozenset.__iter__") (by kernel_rfl) rfl (by decide +kernel) (by kernel_rfl)
theorem kf' {α:Type}:∀ (l:List α) (i:Nat) (h:i < l.length),(l[i]::l.eraseIdx i).Perm l
 | a::l,0,h=>List.Perm.refl _
 | a::l,i+1,h=>by
  rw [List.eraseIdx_cons_succ,List.getElem_cons_succ]
  exact (List.Perm.swap a _ _).trans ((kf' l i (by simpa using h)).cons a)
theorem nq' {α:Type} (next:Nat->Nat):∀ (f k:Nat) (left:List α) (out:Array α),left.length=f->(pickOrder.go next f k left out).toList.Perm (out.toList++left)
 | 0,k,left,out,h=>by
  rw [pickOrder.go,List.length_eq_zero_iff.mp h,List.append_nil]
 | f+1,k,left,out,h=>by
  have lt:next k % left.length < left.length:=Nat.mod_lt _ (by omega)
  rw [pickOrder.go,List.getElem?_eq_getElem lt]
  dsimp only
  refine (nq' next f (k+1) _ _ (by rw [List.length_eraseIdx_of_lt lt];omega)).trans ?_
  rw [Array.toList_push,List.append_assoc]
  exact List.Perm.append_left _ (kf' left _ lt)
theorem pG' {α:Type} (next:Nat->Nat) (xs:Array α):(pickOrder next xs).toList.Perm xs.toList:=by
 have:=nq' next xs.size 0 xs.toList #[] (by simp)
 simpa [pickOrder] using this
section
variable {prog:Program}{w:World}{A:Around}{E:Value->Shared->Prop}{s:Shared}
def byTx (w:World):Bool:=w.params.followText "set-order"
def walkOf (w:World) (S:Addr) (ep:Nat) (es:Array (Int×Value)):Array (Int×Value):=if byTx w=true then pickOrder (w.params.setOrder S ep) es else es
theorem gX' (w:World) (S:Addr) (ep:Nat) (es:Array (Int×Value)):(walkOf w S ep es).toList.Perm es.toList:=by
 unfold walkOf
 split
 ·exact pG' _ _
 ·exact List.Perm.refl _
theorem fz' (w:World) (S:Addr) (ep:Nat) (es:Array (Int×Value)):(walkOf w S ep es).size=es.size:=by
 have:=(gX' w S ep es).length_eq
 simpa using this
def slotAt (w:World) (t:SetTable) (k:Nat):Nat:=if byTx w=true then 0 else match k with
 | 0=>0
 | k+1=>t.place.getD k 0+1
def SitAt (h:Heap) (I S:Addr) (slot k n ep:Nat):Prop:=∃ o,h.get? I=some o/\o.cls=.type "set_iterator"/\o.data=.fields #[.int slot 0,.int k 0,.ref S,.int n 0,.int ep 0]
def SetIs (h:Heap) (S:Addr) (es:Array (Int×Value)) (ep:Nat) (t:SetTable):Prop:=∃ o,h.get? S=some o/\o.cls=.type "set"/\o.data=.set es ep t
theorem oa' {w:World}{t:SetTable}{es:Array (Int×Value)} (T:TabOk t es) (hb:byTx w=false){k:Nat} (hk:k<=es.size):below t.place (slotAt w t k)=k:=by
 unfold slotAt
 rw [hb,if_neg Bool.false_ne_true];have sz:=T.sz
 cases k with
 | zero =>
  dsimp only
  obtain ⟨b1,b2,b3⟩:=gi' T.ris 0
  rcases Nat.eq_zero_or_pos (below t.place 0) with h | h
  ·exact h
  ·have:=b2 0 (by omega) h
   omega
 | succ k =>
  dsimp only
  have lt:k < t.place.size:=by omega
  rw [Array.getD,dif_pos lt]
  change below t.place (t.place[k]+1)=k+1
  obtain ⟨b1,b2,b3⟩:=gi' T.ris (t.place[k]+1)
  rcases Nat.lt_trichotomy (below t.place (t.place[k]+1)) (k+1) with l | l | l
  ·have:=b3 k lt (by omega)
   omega
  ·exact l
  ·have h1:k+1 < t.place.size:=by omega
   have:=b2 (k+1) h1 l
   have:=T.ris k (k+1) lt h1 (by omega)
   omega
theorem jt' {Q:Bool->Shared->Prop} (q:Q (byTx w) s):wpAny (model prog w) A setsByText Q E s:=wpAny_bind (wpAny_askSetting (wpAny_pure q))
theorem nr' {S:Addr}{es:Array (Int×Value)}{ep:Nat}{t:SetTable} (T:TabOk t es) (led:t.led=!byTx w) (hS:SetIs s.heap S es ep t){k:Nat} (hk:k<=es.size){Q:Option (Value×Nat)->Shared->Prop}
  (q:Q ((walkOf w S ep es)[k]?.map fun e=>(e.2,slotAt w t (k+1))) s):wpAny (model prog w) A (setNext S (slotAt w t k) k ep) Q E s:=by
 obtain ⟨o,ho,hc,hd⟩:=hS
 unfold setNext
 refine wpAny_bind (wpAny_setState_of ho hd T.fits ?_)
 dsimp only
 refine wpAny_bind (jt' ?_)
 cases hb:byTx w with
 | true =>
  rw [if_pos rfl,bne_self_eq_false,if_neg Bool.false_ne_true]
  have z:∀ k,slotAt w t k=0:=fun k=>by unfold slotAt;rw [hb,if_pos rfl]
  rw [z]
  rw [z] at q
  refine wpAny_bind ?_
  unfold setWalk
  refine wpAny_bind (wpAny_setState_of ho hd T.fits ?_)
  dsimp only
  refine wpAny_bind (jt' ?_)
  rw [hb,if_pos rfl]
  refine wpAny_bind (wpAny_askSetting (wpAny_pure (wpAny_pure ?_)))
  unfold walkOf at q
  rw [hb,if_pos rfl] at q
  exact q
 | false =>
  rw [if_neg Bool.false_ne_true]
  show wpAny _ _ (if (!t.plain&&decide (es.size > 1))=true then _ else _) _ _ _
  rw [T.pl,Bool.not_true,Bool.false_and,if_neg Bool.false_ne_true]
  refine wpAny_bind ?_
  show wpAny _ _ (if (!t.led&&!es.isEmpty)=true then _ else _) _ _ _
  rw [led,hb,Bool.not_false,Bool.not_true,Bool.false_and,if_neg Bool.false_ne_true]
  refine wpAny_pure (wpAny_pure ?_);rw [oa' T hb hk]
  unfold walkOf at q
  rw [hb,if_neg Bool.false_ne_true] at q
  have sz:=T.sz
  by_cases lt:k < es.size
  ·have lt':k < t.place.size:=by omega
   rw [Array.getElem?_eq_getElem lt,Array.getElem?_eq_getElem lt']
   rw [Array.getElem?_eq_getElem lt] at q
   unfold slotAt at q
   rw [hb,if_neg Bool.false_ne_true] at q
   simp only [Option.map_some,Array.getD,lt',dif_pos] at q
   exact q
  ·rw [Array.getElem?_eq_none (by omega)]
   rw [Array.getElem?_eq_none (by omega)] at q
   exact q
end
end DL
namespace DL
open PySem PySem.W PySem.Spec PyProof.Rows L2 PySem.SetTable
section
variable {prog:Program}{w:World}{A:Around}{E:Value->Shared->Prop}{s:Shared}
theorem lA':Slot "set_iterator" "__iter__" "set_iterator.__iter__":=.of (owner := "set_iterator") (n := "__iter__") (by rw [typeLookup_type,builtinLookup_eq_fast];kernel_rfl) (by decide +kernel) (by decide +kernel) (by decide +kernel) (by first | exact .inl (by decide +kernel) | exact .inr (by decide +kernel)) (by rw [isSubtype_type];kernel_rfl)
theorem ju':entryFor table "set_iterator.__iter__"=some Builtin.«dict_keyiterator.__iter__»:=entryFor_alias (id' := "dict_keyiterator.__iter__") (by kernel_rfl) rfl (by decide +kernel) (by kernel_rfl)
theorem kA' (a:Value):argsOk "set_iterator.__iter__" ⟨[a],[]⟩:=by
 unfold argsOk
 rw [signature?_of (id := "set_iterator.__iter__") (n:=['_','_','r','e','t','i','_','_']) (o:=['r','o','t','a','r','e','t','i','_','t','e','s']) (by kernel_rfl) kd']
 kernel_rfl
theorem SitAt.type {I S:Addr}{slot k n ep:Nat} (h:SitAt s.heap I S slot k n ep):s.TypeIs (.ref I) "set_iterator":=by
 obtain ⟨o,h1,h2,_⟩:=h
 exact ⟨o,h1,h2⟩
theorem SetIs.type {S:Addr}{es:Array (Int×Value)}{ep:Nat}{t:SetTable} (h:SetIs s.heap S es ep t):s.TypeIs (.ref S) "set":=by
 obtain ⟨o,h1,h2,_⟩:=h
 exact ⟨o,h1,h2⟩
theorem qQ' {S:Addr}{es:Array (Int×Value)}{ep:Nat}{t:SetTable} (T:TabOk t es) (hS:SetIs s.heap S es ep t){Q:Value->Shared->Prop}
  (q:Q (.ref s.heap.objs.size) { s with heap:=s.heap.push { cls:=.type "set_iterator", data:=.fields #[.int 0 0,.int 0 0,.ref S,.int es.size 0,.int ep 0] } }):wpAny (model prog w) A (pyIter (.ref S)) Q E s:=by
 have hT:=hS.type
 obtain ⟨o,ho,hc,hd⟩:=hS
 refine wpAny_pyIter_slot hT F.slot_set_iter (wpAny_call_entry F.slot_set_iter hT js' ?_ (F.args_set_iter_1 _))
 refine wpAny_bind (m:=Builtin.Frozenset.slot0 "__iter__" ⟨[.ref S],[]⟩) (wpAny_bind (wpAny_pure (wpAny_pure ?_)))
 refine wpAny_bind (m:=Builtin.Frozenset.sizeOf S) (wpAny_bind (wpAny_setEntries_of ho hd T.fits (wpAny_pure ?_)))
 refine wpAny_bind (m:=setDrawn S) ?_
 unfold setDrawn
 refine wpAny_bind (wpAny_setState_of ho hd T.fits ?_)
 dsimp only
 refine wpAny_bind (jt' (wpAny_pure ?_))
 have z:(!byTx w&&(!t.plain&&decide (es.size > 1)))=false:=by rw [T.pl];simp
 show wpAny _ _ (if (!byTx w&&(!t.plain&&decide (es.size > 1)))=true then _ else _) _ _ _
 rw [z,if_neg Bool.false_ne_true]
 refine wpAny_bind (wpAny_pure (wpAny_bind ?_));unfold setEpoch
 refine wpAny_bind (wpAny_setState_of ho hd T.fits (wpAny_pure ?_))
 exact wpAny_bind (wpAny_newObj_type (wpAny_pure ⟨_,rfl, "set_iterator", _,⟨_,Heap.get?_push_size _ rfl,rfl⟩,eg'.lookup,q⟩))
theorem sc' (hh:A.handled=none){Q:Option Value->Shared->Prop} (q:∀ h',(∀ b o,s.heap.get? b=some o->h'.get? b=some o)->Q none { s with heap:=h' }) :
  wpAny (model prog w) A (newExc (.type "StopIteration") [] >>= fun e=>(raiseNew e:Sem PySem.Fin)) (fun _ _=>False) (fun e s'=>wpAny (model prog w) A (isInstance e (.type "StopIteration")) (fun b s''=>b=true/\Q none s'') (fun _ _=>False) s') s:=by
 refine wpAny_bind ?_
 unfold newExc newTuple
 refine wpAny_bind (wpAny_newObj_type (wpAny_bind (m:=firstArgMember _ _) (wpAny_of_eq (a:=Value.none) (by first | rfl | (simp only [firstArgMember];rfl)) (wpAny_newObj_type ?_ (by size_fits)))) (by size_fits))
 unfold raiseNew
 refine wpAny_bind (wpAny_handled ?_);rw [hh]
 refine wpAny_bind (wpAny_pure (wpAny_throw ?_));refine wpAny_isInstance (T := "StopIteration") (b:=true) ⟨_,Heap.get?_push_size _ rfl,rfl⟩ isSubtype_stop ⟨rfl,q _ fun b o x=>?_⟩
 exact Heap.get?_push_of_some _ (Heap.get?_push_of_some _ x)
theorem pH' {I S:Addr}{es:Array (Int×Value)}{ep k:Nat}{t:SetTable} (T:TabOk t es) (led:t.led=!byTx w) (hI:SitAt s.heap I S (slotAt w t k) k es.size ep) (hS:SetIs s.heap S es ep t) (hk:k < es.size){Q:Option Value->Shared->Prop}
  (q:∀ v h',(walkOf w S ep es)[k]?.map (·.2)=some v->SitAt h' I S (slotAt w t (k+1)) (k+1) es.size ep->KeptBut I s.heap h'->Q (some v) { s with heap:=h' }):wpAny (model prog w) A (pyNext (.ref I)) Q E s:=by
 have hT:=hI.type
 obtain ⟨o,ho,hc,hd⟩:=hI
 obtain ⟨oS,hoS,hcS,hdS⟩:=id hS
 unfold pyNext
 refine wpAny_bind (wpAny_attempt (wpAny_callSpecial?_slot (name:=Str.ofString "__next__") hT eg' (wpAny_call_entry eg' hT ke' ?_ (lz' _))))
 refine wpAny_bind (m:=slotArgs "__next__" 0 ⟨[.ref I],[]⟩) (wpAny_pure ?_)
 refine wpAny_bind (wpAny_fieldsOf ho hd ?_);refine wpAny_bind (wpAny_setEntries_of hoS hdS T.fits ?_)
 rw [if_neg (by simp)]
 dsimp only
 have lt:k < (walkOf w S ep es).size:=by rw [fz'];exact hk
 refine wpAny_bind (m:=setNext S _ _ _) ?_
 simp only [Int.toNat_natCast]
 refine nr' T led hS (Nat.le_of_lt hk) ?_
 rw [Array.getElem?_eq_getElem lt,Option.map_some]
 dsimp only
 refine wpAny_bind (wpAny_setField ho hd (by simp) ?_);obtain ⟨h1,e1⟩:∃ h1,h1=s.heap.update I (Obj.mapFields (·.setIfInBounds 0 (rawInt ((slotAt w t (k+1):Nat):Int)))):=⟨_,rfl⟩
 have ho1:=Heap.get?_update_self (Obj.mapFields (·.setIfInBounds 0 (rawInt ((slotAt w t (k+1):Nat):Int)))) ho (Obj.isFreed_of_fields (Obj.data_mapFields hd _))
 have hd1:=Obj.data_mapFields hd (·.setIfInBounds 0 (rawInt ((slotAt w t (k+1):Nat):Int)))
 have k1:KeptBut I s.heap h1:=fun b o ne x=>by rw [e1];exact (Heap.get?_update_other _ _ (Ne.symm ne)).trans x
 rw [← e1] at ho1 ⊢
 refine wpAny_bind (wpAny_setField ho1 hd1 (by simp) (wpAny_pure ⟨_,rfl,wpAny_pure (q _ _ (by rw [Array.getElem?_eq_getElem lt];rfl) ⟨_,Heap.get?_update_self _ ho1 (Obj.isFreed_of_fields (Obj.data_mapFields hd1 _)),?_,?_⟩ fun b o ne x=>(Heap.get?_update_other _ _ (Ne.symm ne)).trans (k1 b o ne x))⟩))
 ·exact ((Obj.cls_mapFields ..).trans (Obj.cls_mapFields ..)).trans hc
 ·rw [Obj.data_mapFields hd1]
  simp [rawInt]
theorem qR' (hh:A.handled=none){I S:Addr}{es:Array (Int×Value)}{ep:Nat}{t:SetTable} (T:TabOk t es) (led:t.led=!byTx w) (hI:SitAt s.heap I S (slotAt w t es.size) es.size es.size ep) (hS:SetIs s.heap S es ep t){Q:Option Value->Shared->Prop}
  (q:∀ h',KeptBut I s.heap h'->Q none { s with heap:=h' }):wpAny (model prog w) A (pyNext (.ref I)) Q E s:=by
 have hT:=hI.type
 obtain ⟨o,ho,hc,hd⟩:=hI
 obtain ⟨oS,hoS,hcS,hdS⟩:=id hS
 unfold pyNext
 refine wpAny_bind (wpAny_attempt (wpAny_callSpecial?_slot (name:=Str.ofString "__next__") hT eg' (wpAny_call_entry eg' hT ke' ?_ (lz' _))))
 refine wpAny_bind (m:=slotArgs "__next__" 0 ⟨[.ref I],[]⟩) (wpAny_pure ?_)
 refine wpAny_bind (wpAny_fieldsOf ho hd ?_);refine wpAny_bind (wpAny_setEntries_of hoS hdS T.fits ?_)
 rw [if_neg (by simp)]
 dsimp only
 refine wpAny_bind (m:=setNext S _ _ _) ?_
 simp only [Int.toNat_natCast]
 refine nr' T led hS (Nat.le_refl _) ?_
 rw [Array.getElem?_eq_none (by rw [fz'];exact Nat.le_refl _),Option.map_none]
 dsimp only
 refine wpAny_bind (wpAny_setField ho hd (by simp) ?_);refine wpAny_mono (sc' (A:=A.in1) (s:={ s with heap:=_ }) (Q:=Q) hh fun h' keep=>q h' fun b o ne x=>keep b o ((Heap.get?_update_other _ _ (Ne.symm ne)).trans x)) (fun _ _ x=>x.elim) fun e s' h=>?_
 refine wpAny_bind (wpAny_mono (wpAny_of_in1 h) (fun b s'' hb=>?_) fun _ _ x=>x.elim)
 obtain ⟨rfl,hq⟩:=hb
 exact wpAny_pure hq
theorem pI' (hh:A.handled=none){I S:Addr} (ne:S≠I){es:Array (Int×Value)}{ep:Nat}{t:SetTable} (T:TabOk t es) (led:t.led=!byTx w) :
  Walks prog w A I [I,S] [I] es.size (fun k v=>(walkOf w S ep es)[k]?.map (·.2)=some v) (fun k h=>SitAt h I S (slotAt w t k) k es.size ep/\SetIs h S es ep t) where
 sub:=fun b hb=>by
  rw [List.mem_singleton.mp hb]
  exact List.mem_cons_self
 frame:=fun k h h' st keep=>by
  obtain ⟨⟨o,a1,a2⟩,⟨o',b1,b2⟩⟩:=st
  exact ⟨⟨o,keep I (by simp) o a1,a2⟩,⟨o',keep S (by simp) o' b1,b2⟩⟩
 item:=fun k s Q E hk st q=>pH' T led st.1 st.2 hk fun v h' e si kb=>by
  refine q v h' s.toks e ⟨si,?_⟩ fun b o nb x=>kb b o (fun z=>nb (by rw [z];simp)) x
  obtain ⟨o',b1,b2⟩:=st.2
  exact ⟨o',kb S o' ne b1,b2⟩
 done:=fun s Q E st q=>qR' hh T led st.1 st.2 fun h' kb=>q h' s.toks fun b o nb x=>kb b o (fun z=>nb (by rw [z];simp)) x
 self:=fun k s Q E st q=>by
  have hT:=st.1.type
  exact wpAny_pyIter_slot hT lA' (wpAny_call_entry lA' hT ju' (wpAny_pure ⟨_,rfl, "set_iterator", _,hT,eg'.lookup,q⟩) (kA' _))
end
end DL
namespace DL
open PySem PySem.W PySem.Spec PyProof.Rows L2 PySem.SetTable
section
variable {prog:Program}{w:World}{A:Around}{E:Value->Shared->Prop}{s:Shared}
theorem pJ' {xs:Array Value}{acc:Array Value} (h:ItemsOf (fun k v=>xs[k]?=some v) acc xs.size):acc=xs:=by
 refine Array.ext h.1 fun i h1 h2=>?_
 have:=h.2 i acc[i] (Array.getElem?_eq_getElem h1)
 change xs[i]?=some acc[i] at this
 rw [Array.getElem?_eq_getElem h2] at this
 exact Eq.symm (Option.some.inj this)
theorem qS' {S:Addr}{Q:Bool->Shared->Prop} (hT:s.TypeIs (.ref S) "set") (q:Q false s):wpAny (model prog w) A (Builtin.List.listLengthHint (.ref S)) Q E s:=by
 unfold Builtin.List.listLengthHint;refine wpAny_bind (wpAny_specialOf hT F.slot_set_len.lookup ?_)
 have sp:splitId "set.__len__"=some ("set", "__len__"):=by decide +kernel
 dsimp only
 rw [sp]
 dsimp only
 refine wpAny_bind (wpAny_isInstance hT sub_set_self ?_);rw [if_neg (by decide)]
 exact wpAny_bind (wpAny_typeOf hT (wpAny_pure q))
theorem sd' (hh:A.handled=none){S:Addr}{es:Array (Int×Value)}{ep:Nat}{t:SetTable} (T:TabOk t es) (led:t.led=!byTx w) (hS:SetIs s.heap S es ep t){Q:List Value->Shared->Prop}
  (q:∀ h' tk,(∀ b o,s.heap.get? b=some o->h'.get? b=some o)->s.heap.objs.size<=h'.objs.size->Q ((walkOf w S ep es).toList.map (·.2)) { s with heap:=h',toks:=tk }):wpAny (model prog w) A (collect (.ref S)) Q E s:=by
 have line:64<=sizeLine:=by rw [sizeLine_eq];decide
 have few:es.size<=18:=by have:=T.few;have:=T.sz;omega
 have ltS:S < s.heap.objs.size:=by
  obtain ⟨o,ho,_⟩:=hS
  exact Heap.lt_size ho
 unfold collect
 refine wpAny_bind (wpAny_runValue (codeAny_builtin F.entry_proto_collect ?_));rw [Around.under_plainId F.plain_proto_collect _]
 refine wpAny_bind (m:=newList []) (wpAny_newObj_type (wpAny_pure ⟨plainId_quiet F.plain_list_iadd _,codeAny_builtin F.entry_list_iadd ?_⟩))
 rw [Around.under_plainId F.plain_list_iadd _];obtain ⟨h1,e1⟩:∃ h1,h1=s.heap.push { cls:=.type "list", data:=.seq ([]:List Value).toArray }:=⟨_,rfl⟩
 have sz1:h1.objs.size=s.heap.objs.size+1:=by rw [e1,Heap.size_push]
 have old1:∀ b o,s.heap.get? b=some o->h1.get? b=some o:=fun b o x=>by rw [e1];exact Heap.get?_push_of_some _ x
 have own1:h1.get? s.heap.objs.size=some { cls:=.type "list", data:=.seq ([]:List Value).toArray }:=by rw [e1];exact Heap.get?_push_size _ rfl
 rw [← e1]
 have hS1:SetIs h1 S es ep t:=by
  obtain ⟨o,ho,r⟩:=hS
  exact ⟨o,old1 _ _ ho,r⟩
 have neL:s.heap.objs.size≠S:=Nat.ne_of_gt ltS
 show wpAny _ A.in1 (Builtin.List.listExtendWith (.ref s.heap.objs.size) (.ref S) (.ref s.heap.objs.size)) _ _ { s with heap:=h1 }
 unfold Builtin.List.listExtendWith;refine wpAny_bind (wpAny_typeOf (s:={ s with heap:=h1 }) hS1.type ?_)
 rw [if_neg (by simp [Builtin.List.listSameRef,neL])]
 refine wpAny_bind (qQ' (s:={ s with heap:=h1 }) T hS1 ?_)
 obtain ⟨I,eI⟩:∃ I,I=h1.objs.size:=⟨_,rfl⟩
 obtain ⟨h2,e2⟩:∃ h2,h2=h1.push { cls:=.type "set_iterator", data:=.fields #[.int 0 0,.int 0 0,.ref S,.int es.size 0,.int ep 0] }:=⟨_,rfl⟩
 have old2:∀ b o,h1.get? b=some o->h2.get? b=some o:=fun b o x=>by rw [e2];exact Heap.get?_push_of_some _ x
 have ownI:SitAt h2 I S (slotAt w t 0) 0 es.size ep:=⟨_,by rw [e2,eI];exact Heap.get?_push_size _ rfl,rfl,by unfold slotAt;split<;>rfl⟩
 have hS2:SetIs h2 S es ep t:=by
  obtain ⟨o,ho,r⟩:=hS1
  exact ⟨o,old2 _ _ ho,r⟩
 show wpAny _ _ _ _ _ { s with heap:=h1.push _ }
 rw [← e2]
 rw [← eI]
 refine wpAny_bind (wpAny_holding (qS' (s:={ s with heap:=h2 }) hS2.type ?_))
 rw [if_pos (by decide +kernel)]
 refine wpAny_bind (wpAny_rule (wpAny_bind (m:=Builtin.List.listTouch (.ref s.heap.objs.size)) ?_))
 have own2:=old2 _ _ own1
 refine wpAny_bind (m:=updateSeq s.heap.objs.size (·.push .none)) (wpAny_updateSeq own2 rfl ?_ (by simp) (by simp))
 have own3:=Heap.get?_update_self (Obj.mapSeq (·.push Value.none)) own2 rfl
 refine wpAny_updateSeq own3 rfl ?_ (by show (#[Value.none]:Array Value).size<=_;simp;omega) (by simp)
 have own4:=Heap.get?_update_self (Obj.mapSeq (·.pop)) own3 rfl
 obtain ⟨h4,e4⟩:∃ h4,h4=((h2.update s.heap.objs.size (Obj.mapSeq (·.push Value.none))).update s.heap.objs.size (Obj.mapSeq (·.pop))):=⟨_,rfl⟩
 have oth:KeptBut s.heap.objs.size h2 h4:=fun b o ne x=>by rw [e4];exact (Heap.get?_update_other _ _ (Ne.symm ne)).trans ((Heap.get?_update_other _ _ (Ne.symm ne)).trans x)
 rw [← e4] at own4
 show wpAny _ _ _ _ _ { s with heap:=Heap.update (Heap.update h2 _ _) _ _ }
 rw [← e4]
 have neI:s.heap.objs.size≠I:=by rw [eI,sz1];exact Nat.ne_of_lt (Nat.lt_succ_self _)
 have neSI:S≠I:=by rw [eI,sz1];exact Nat.ne_of_lt (Nat.lt_succ_of_lt ltS)
 have W:=(pI' (prog:=prog) (w:=w) (A:=A.in1) (ep:=ep) (by exact hh) neSI T led).toS
 refine wpAny_pure ⟨plainId_quiet F.plain_extend_loop _,codeAny_extend_loopS W (by omega) s.heap.objs.size (by simp [neI,neL]) _ es.size 0 _ _ _ rfl (Nat.zero_le _) ?_ own4 (ItemsOf.nil _) fun s' acc c mv here it=>?_⟩
 ·obtain ⟨o,a1,a2⟩:=ownI
  obtain ⟨o',b1,b2⟩:=hS2
  exact ⟨⟨o,oth _ _ (Ne.symm neI) a1,a2⟩,⟨o',oth _ _ (Ne.symm neL) b1,b2⟩⟩
 ·obtain ⟨h',g',d',tk',os'⟩:=s';have eg:g'=s.gens:=mv.gens
  have ed:d'=s.drawn:=mv.drawn
  have eo:os'=s.os:=mv.os
  subst eg;subst ed;subst eo
  refine wpAny_bind (wpAny_load here (wpAny_pure ?_))
  have size:es.size=((walkOf w S ep es).map (·.2)).size:=by rw [Array.size_map,fz']
  have all:acc=(walkOf w S ep es).map (·.2):=pJ' (by
   rw [← size]
   refine ⟨it.1,fun j v hj=>?_⟩
   have:=it.2 j v hj
   show ((walkOf w S ep es).map (·.2))[j]?=some v
   rw [Array.getElem?_map]
   exact this)
  have lt':s.heap.objs.size < h'.objs.size:=Heap.lt_size here
  have:=q h' tk' (fun b o x=>mv.heap b o (fun hb=>?_) (oth b o (Nat.ne_of_lt (Heap.lt_size x)) (old2 _ _ (old1 _ _ x)))) (Nat.le_of_lt lt')
  ·rw [all]
   simpa using this
  ·have lb:=Heap.lt_size x
   rcases List.mem_cons.mp hb with z | z
   ·exact Nat.ne_of_lt lb z
   ·rw [List.mem_singleton.mp z,eI,sz1] at lb
    exact absurd lb (Nat.not_lt.mpr (Nat.le_succ _))
end
end DL
namespace DL
open PySem PySem.W PySem.Spec PyProof.Rows L2 PySem.SetTable
section
variable {prog:Program}{w:World}{A:Around}{E:Value->Shared->Prop}{s:Shared}
def fresh0 (w:World):Obj:={ cls:=.type "set", dict:=none,data:=.set #[] 0 (.fresh 0 0 (!byTx w)) }
theorem se' (a:Value){Q:Value->Shared->Prop} (q:Q (.ref s.heap.objs.size) { s with heap:=s.heap.push (fresh0 w) }) :
  codeAny (model prog w) A (.call (.builtin "set.__new__") ⟨[.type "set", a],[]⟩) (wants Q E) s:=by
 refine codeAny_of_tree (wpAny_bind (m:=checkBuiltinCall "set.__new__" ⟨[.type "set", a],[]⟩) (wpAny_of_eq (PySem.F.newCall_set_1 a) (wpAny_pure ⟨plainId_quiet F.plain_set_new _,codeAny_builtin F.entry_set_new ?_⟩)))
 rw [Around.under_plainId F.plain_set_new _];unfold Builtin.«set.__new__» Builtin.Frozenset.newClass
 have hsub:=sub_set_self
 obtain ⟨hp,g,d,tk,os⟩:=s;dsimp only
 wp_walk
 refine wpAny_askSetting (wpAny_pure (wpAny_bind (wpAny_alloc (wpAny_pure (wpAny_pure q)))))
theorem qT' (w:World):TabOk (.fresh 0 0 (!byTx w)) #[]:=by
 refine ⟨rfl,fun i j hi=>?_,rfl,fun i hi=>?_,⟨Nat.zero_le _,.inr ⟨rfl,Nat.zero_le _⟩⟩,rfl,fun i hi=>?_⟩
 all_goals exact absurd hi (Nat.not_lt_zero _)
variable {X:Cx}{pins:List (Addr×Obj)}{σ:L2.St}{H:Hp}
theorem tx' (I0:Inv X pins σ H s) (hh:A.handled=none){l:Addr}{items:List Value} (hl:s.heap.IsList l items.toArray){J:Hp} (hJ:∀ d x,Is X.K J d x->Is X.K H d x){ds:List D}{zs:List V} (ha:IsA X.K J ds zs) (hv:Vals zs items) (ok:SetOk ds) (hu:A.units+50 < cLine){Q:Value->Shared->Prop}
  (q:∀ S s' es,Ext s s'->s.heap.objs.size<=S->SetAt s'.heap S (!byTx w) es->EsOk X J es (dd ds)->Q (.ref S) s'):wpAny (model prog w) A (call (.type "set") [.ref l]) Q E s:=by
 obtain ⟨c,tl,hmro⟩:=F.called_set.mro;have hmade:=F.called_set.made
 have hsub:=F.called_set.sub
 refine wpAny_call (codeAny_of_tree (wpAny_pure ⟨Code.quiet_builtin _ (by decide +kernel),codeAny_builtin F.entry_type_call ?_⟩))
 rw [Around.under_plain (weight_type_call_type "set" [.ref l] []) rfl];have h1:=F.called_set.notType
 have h2:=F.called_set.canCreate;have hct:=PySem.F.typeCall_set_1 (.ref l)
 repeat any_goals first | assumption | wp_step
 refine codeAny_mono (se' (w:=w) (.ref l) (E:=E) (Q:=fun obj s₁=>obj=.ref s.heap.objs.size/\s₁={ s with heap:=s.heap.push (fresh0 w) }) ⟨rfl,rfl⟩) fun r s₁ hr=>?_
 rcases r with e | fl
 ·exact hr
 cases fl with
 | ret obj =>
  obtain ⟨rfl,rfl⟩:=hr
  have hS:(s.heap.push (fresh0 w)).get? s.heap.objs.size=some (fresh0 w):=Heap.get?_push_size _ rfl
  have hT:Shared.TypeIs { s with heap:=s.heap.push (fresh0 w) } (.ref s.heap.objs.size) "set":=⟨_,hS,rfl⟩
  have hli:=F.called_set.init.lookup;have hbi:=F.called_set.init.bind (.ref s.heap.objs.size)
  repeat any_goals first | assumption | wp_step
  refine codeAny_mono (codeAny_call_builtin (R:=wants (fun r s₂=>r=.none/\∃ es,Ext s s₂/\SetAt s₂.heap s.heap.objs.size (!byTx w) es/\EsOk X J es (dd ds)) E) F.called_set.init.plain F.entry_set_init (check_set_init_1 hT ?_)) fun r₂ s₂ hr₂=>?_
  ·obtain ⟨ol,hol,hcl,nl,hdl⟩:=hl;have ltl:l < s.heap.objs.size:=Heap.lt_size hol
   obtain ⟨ocls,odict,odata,oslots⟩:=ol;simp only at hcl hdl
   subst hcl;subst hdl
   have hol':(s.heap.push (fresh0 w)).get? l=some { cls:=.type "list", dict:=odict,data:=.seq items.toArray nl,slots:=oslots }:=Heap.get?_push_of_some _ hol
   have hsls:=PySem.F.sub_list_set
   have hslf:=PySem.F.sub_list_frozenset
   have hne:(Value.type "list" == Value.type "dict")=false:=(by decide)
   have hl1:(s.heap.push (fresh0 w)).IsList l items.toArray:=⟨_,hol',rfl,nl,rfl⟩
   obtain ⟨h1,e1⟩:∃ h1,h1=s.heap.push (fresh0 w):=⟨_,rfl⟩
   have sz1:h1.objs.size=s.heap.objs.size+1:=by rw [e1,Heap.size_push]
   have old1:∀ b o,s.heap.get? b=some o->h1.get? b=some o:=fun b o x=>by rw [e1];exact Heap.get?_push_of_some _ x
   rw [← e1] at hS hol' hl1
   show wpAny _ _ _ _ _ { s with heap:=s.heap.push (fresh0 w) }
   rw [← e1]
   have hSx:h1.get? s.heap.objs.size=some { cls:=.type "set", dict:=none,data:=.set #[] 0 (.fresh 0 0 (!byTx w)) }:=hS
   unfold Builtin.«set.__init__» noKeywords Builtin.Frozenset.updateFrom;generalize hPI:pyIter=PI
   wp_walk
   subst hPI
   refine wpAny_pyIter_list (s:={ s with heap:=h1 }) hl1 (wpAny_bind (wpAny_runValue ?_))
   have neI:l≠h1.objs.size:=by rw [sz1];exact Nat.ne_of_lt (Nat.lt_succ_of_lt ltl)
   refine qP' (s0:=s) (led:=!byTx w) I0 (Nat.le_refl _) (by rw [sz1];exact Nat.le_succ _) (Walks.list (by exact hh) h1.objs.size l neI items.toArray) ?_ hJ ha ok (by rw [List.size_toArray,← hv.length,← ha.length]) (fun i v hi=>?_) (by show A.units+1+1+20 < _;omega) _ 0 _ rfl (Nat.zero_le _) ?_ ?_ ?_ fun s' es ex sa eo=>?_
   ·rw [sz1]
    intro hm
    rcases List.mem_cons.mp hm with z | z
    ·exact absurd z (Nat.ne_of_lt (Nat.lt_succ_self _))
    ·exact absurd (List.mem_singleton.mp z) (Nat.ne_of_gt ltl)
   ·have hi':items[i]?=some v:=by simpa using hi
    have li:i < zs.length:=by
     rw [hv.length]
     rcases Nat.lt_or_ge i items.length with z | z
     ·exact z
     ·rw [List.getElem?_eq_none z] at hi';cases hi'
    obtain ⟨u,e3,e4⟩:=hv.get (List.getElem?_eq_getElem li)
    rw [hi'] at e3
    cases e3
    exact ⟨_,List.getElem?_eq_getElem li,e4⟩
   ·exact ⟨_,s.toks,rfl,fun b o x=>Heap.get?_push_of_some _ (old1 b o x)⟩
   ·exact ⟨⟨_,Heap.get?_push_size _ rfl,rfl,rfl⟩,hl1.push _⟩
   ·refine ⟨#[],⟨_,0,_,Heap.get?_push_of_some _ hSx,rfl,rfl,qT' w,rfl⟩,rfl,fun e he=>?_,fun d hd=>?_⟩
    ·simp at he
    ·cases hd
   ·exact wpAny_pure (wpAny_pure ⟨rfl,es,ex,sa,eo⟩)
  ·rcases r₂ with e | fl₂
   ·exact hr₂
   ·cases fl₂ with
    | ret r =>
     obtain ⟨rfl,es,e1,e2,e3⟩:=hr₂
     repeat any_goals first | assumption | wp_step
     exact q _ _ es e1 (Nat.le_refl _) e2 e3
    | _=>exact hr₂.elim
 | _=>exact hr.elim
end
end DL
namespace DL
open PySem PySem.W PySem.Spec PyProof.Rows L2 PySem.SetTable
theorem IsA.up {K:PySem.W.Frag}{J H:Hp} (h:∀ d x,Is K J d x->Is K H d x):∀ {ds:List D}{zs:List V},IsA K J ds zs->IsA K H ds zs
 | [],zs,a=>by rw [a.nil_inv];exact IsA.nil
 | d::ds,zs,a=>by
  obtain ⟨x,r,rfl,h1,h2⟩:=a.cons_inv
  exact IsA.cons (h _ _ h1) (IsA.up h h2)
section
variable {X:Cx}{pins:List (Addr×Obj)}{σ:L2.St}{H:Hp}{s:Shared}{A:Around}
theorem it' {α:Type}:∀ (l m:List α),l.Nodup->(∀ x∈l,x∈m)->m.length<=l.length->l.Perm m
 | [],m,_,_,h=>by rw [List.length_eq_zero_iff.mp (Nat.le_zero.mp h)]
 | x::l,m,nd,h,len=>by
  obtain ⟨a,b,rfl⟩:=List.append_of_mem (h x List.mem_cons_self)
  rw [List.nodup_cons] at nd
  have p:=it' l (a++b) nd.2 (fun y hy=>by
   have:=h y (List.mem_cons_of_mem _ hy)
   rcases List.mem_append.mp this with z | z
   ·exact (List.mem_append_left _ z)
   ·rcases List.mem_cons.mp z with z | z
    ·subst z;exact absurd hy nd.1
    ·exact List.mem_append_right _ z) (by simp at len ⊢;omega)
  exact (p.cons x).trans List.perm_middle.symm
theorem iU':∀ (ds acc:List D),acc.Nodup->(ds.foldl dstep acc).Nodup
 | [],acc,h=>h
 | d::ds,acc,h=>by
  refine iU' ds _ ?_
  unfold dstep
  split
  ·exact h
  ·rename_i no
   rw [List.nodup_append]
   refine ⟨h,by simp,fun a ha b hb e=>?_⟩
   rw [List.mem_singleton.mp hb] at e
   subst e
   exact no (List.any_eq_true.mpr ⟨a,ha,dI' a⟩)
theorem lB' (ds:List D):(dd ds).Nodup:=iU' ds [] List.nodup_nil
theorem qU' {l m:List D} (p:l.Perm m) (cm:cmAll l=true):sortD l=sortD m:=by
 refine gh' _ _ ((cl' l).trans (p.trans (cl' m).symm)) (cn' l) (cn' m) fun a ha b hb h1 h2=>?_
 have c:=List.all_eq_true.mp (List.all_eq_true.mp cm a ((cl' l).mem_iff.mp ha)) b ((cl' l).mem_iff.mp hb)
 refine gV' a b c ?_
 rw [f7' a b c]
 unfold leD at h1 h2
 rw [h1,h2]
 rfl
theorem ns' {n:Nat}:∀ {xs:List D},(∀ x∈xs,dep x<=n)->depA xs<=n
 | [],_=>by rw [depA];exact Nat.zero_le _
 | x::xs,h=>by
  rw [depA]
  exact Nat.max_le.mpr ⟨h x List.mem_cons_self,ns' fun y hy=>h y (List.mem_cons_of_mem _ hy)⟩
theorem kg' {J:Hp}{M:List D}:∀ (L:List (Int×Value)),(∀ e∈L,∃ d∈M,Stn X J e d)->∃ ds zs,IsA X.K J ds zs/\Vals zs (L.map (·.2))/\ds.length=L.length/\(∀ d∈ds,d∈M)/\∀ e∈L,∃ d∈ds,Stn X J e d
 | [],_=>⟨[],[],IsA.nil,.nil,rfl,fun d hd=>(by cases hd),fun e he=>(by cases he)⟩
 | e::L,h=>by
  obtain ⟨ds,zs,a1,a2,a3,a4,a5⟩:=kg' L fun e he=>h e (List.mem_cons_of_mem _ he)
  obtain ⟨d,m,q⟩:=h e List.mem_cons_self
  obtain ⟨_,x,q1,q2⟩:=id q
  refine ⟨d::ds,x::zs,IsA.cons q1 a1,.cons q2 a2,by simp [a3],fun d' hd'=>?_,fun e' he'=>?_⟩
  ·rcases List.mem_cons.mp hd' with z | z
   ·rw [z];exact m
   ·exact a4 d' z
  ·rcases List.mem_cons.mp he' with z | z
   ·rw [z];exact ⟨d,List.mem_cons_self,q⟩
   ·obtain ⟨d',m',q'⟩:=a5 e' z
    exact ⟨d',List.mem_cons_of_mem _ m',q'⟩
theorem ob' (hu:X.A.units+100 < cLine) (hh:X.A.handled=none) (I:Inv X pins σ H s){p:Addr}{J:Hp} (hJ:∀ d x,Is X.K J d x->Is X.K H d x){zs:List V}{ds:List D} (hq:SqL X.K H p zs) (ha:IsA X.K J ds zs) (ok:SetOk ds)
  (kd:ds.all fstI=true\/ds.all fstT=true){Q:VK} (k:∀ l zs',IsA X.K J (sortD (dd ds)) zs'->H l=none->Q (.ref l) (upd H l (.lst zs'))) :
  wpAny (model X.prog X.w) X.A (call (.type "set") [.ref p]) (fun v s'=>wpAny (model X.prog X.w) X.A (call (.builtin "sorted") [v]) (EP X pins σ Q) X.xe s') X.xe s:=by
 obtain ⟨its,rv,t,hz⟩:=I.list hq
 refine tx' I hh t.isList hJ ha rv ok (by omega) fun S s' es ex le sa eo=>?_
 have I':=ex.inv I
 obtain ⟨cm,ky,ti,dp,few⟩:=ok
 obtain ⟨o,ep,tb,ho,hc,hd,T,led⟩:=sa
 obtain ⟨ds',zs',a1,a2,a3,a4,a5⟩:=kg' (X:=X) (J:=J) (M:=dd ds) (walkOf X.w S ep es).toList fun e he=>eo.2.1 e (by
  have:=(gX' X.w S ep es).mem_iff.mp he
  simpa using this)
 have tt:∀ d∈dd ds,isT d=true:=fun d hd=>List.all_eq_true.mp ti _ (gW' hd)
 have pm:(dd ds).Perm ds':=by
  refine it' _ _ (lB' ds) (fun d hd=>?_) (by rw [a3,Array.length_toList,fz',eo.1];exact Nat.le_refl _)
  obtain ⟨e,m,q⟩:=eo.2.2 d hd
  obtain ⟨d',m',q'⟩:=a5 e ((gX' X.w S ep es).mem_iff.mpr (by simpa using m))
  have:=Stn.det I' (tt d hd) (tt d' (a4 d' m')) (q.up hJ) (q'.up hJ)
  rw [this]
  exact m'
 have sub:∀ d∈ds',d∈ds:=fun d hd=>gW' (a4 d hd)
 have cm':cmAll ds'=true:=List.all_eq_true.mpr fun a ha'=>List.all_eq_true.mpr fun b hb'=>List.all_eq_true.mp (List.all_eq_true.mp cm a (sub a ha')) b (sub b hb')
 have a1':IsA X.K H ds' zs':=IsA.up hJ a1
 refine h4' hu I' a1' a2 ⟨by have:=pm.length_eq;omega,cm',Nat.le_trans (ns' fun x hx=>cE' (sub x hx)) (by omega),?_⟩ (fun Q' q=>sd' (A:=X.A.in1) (by exact hh) T led ⟨o,ho,hc,hd⟩ q) fun l q hp e hl=>k l _ ?_ hl
 ·rcases kd with z | z
  ·exact .inr (.inl (List.all_eq_true.mpr fun x hx=>List.all_eq_true.mp z x (sub x hx)))
  ·exact .inr (.inr (List.all_eq_true.mpr fun x hx=>List.all_eq_true.mp z x (sub x hx)))
 ·rw [← qU' pm.symm cm',← e]
  exact a1.perm hp
end
end DL
namespace DL
open PySem PySem.W PySem.Spec PyProof.Rows L2 PySem.SetTable
section
variable {X:Cx}{B:BB}{e:Expr}{pos pos':Pos}{kr:Nat}
def rSS (X:Cx) (xs:List V) (H:Hp) (Q:VK):Prop:=∃ (p:Addr) (zs:List V) (ds:List D) (J:Hp),xs=[.ref p]/\SqL X.K H p zs/\IsA X.K J ds zs/\(∀ d x,Is X.K J d x->Is X.K H d x)/\SetOk ds/\(ds.all fstI=true\/ds.all fstT=true) ∧
 ∀ l zs',IsA X.K J (sortD (dd ds)) zs'->H l=none->Q (.ref l) (upd H l (.lst zs'))
theorem oc' {p p':Pos}{t:TA} (hr:Room kr X.A) (hg:Gl X "sorted") (hm:X.mg "sorted"=none) (hg':Gl X "set") (hm':X.mg "set"=none) (ha:PA X [e] t)
  (he:starEach [e] X.env=(false,eval e X.env)::starEach [] X.env:=by rfl) (he':starEach [.Call (.Name "set" p') [e] [] pos'] X.env=(false,eval (.Call (.Name "set" p') [e] [] pos') X.env)::starEach [] X.env:=by rfl)
  (hpl:∀ pos,(backTo pos (starEach [] X.env)).any (·.1)=false:=by intro _;rfl) :
  PE X (.Call (.Name "sorted" p) [.Call (.Name "set" p') [e] [] pos'] [] pos) (tCB (rSS X) t):=by
 intro pins s σ H Q I h
 refine wpAny_Call_Name_kw (cQ' I hg hm boot_sorted (PyProof.Rows.callWith_builtin1 ?_ he' (hpl _)) (by decide) (by decide))
 rw [he']
 refine Calls.spliced_cons (wpAny_Call_Name_kw (cQ' I hg' hm' boot_set (PyProof.Rows.callWith_type1 ?_ he (hpl _)) (by decide) (by decide)))
 refine thn (ha pos' pins s σ H _ I h) fun us s1 ⟨vs,H1,I1,r1,p,zs,ds,J,e1,q1,q2,q3,q4,q5,q6⟩=>?_
 subst e1
 obtain ⟨u,rfl,ru⟩:=vals1 r1
 cases ru
 exact thn (ob' (hu100 hr) hr.hd I1 q3 q1 q2 q4 q5 q6) fun v s2 q=>Calls.spliced_nil q
def setF (ds:List D):Option (List D):=match ds with
 | [.lst xs]=>if (cmAll xs=true/\xs.all kyB=true/\xs.all isT=true/\depA xs<=8/\(dd xs).length<=18)/\(xs.all fstI=true\/xs.all fstT=true) then some (sortD (dd xs)) else none
 | _=>none
theorem od' {p p':Pos}{t:M (List D)} (hr:Room kr X.A) (hg:Gl X "sorted") (hm:X.mg "sorted"=none) (hg':Gl X "set") (hm':X.mg "set"=none) (ha:AD X B [e] t)
  (he:starEach [e] X.env=(false,eval e X.env)::starEach [] X.env:=by rfl) (he':starEach [.Call (.Name "set" p') [e] [] pos'] X.env=(false,eval (.Call (.Name "set" p') [e] [] pos') X.env)::starEach [] X.env:=by rfl)
  (hpl:∀ pos,(backTo pos (starEach [] X.env)).any (·.1)=false:=by intro _;rfl) :
  EO X B (.Call (.Name "sorted" p) [.Call (.Name "set" p') [e] [] pos'] [] pos) (fn1 setF t):=PE.imp (oc' hr hg hm hg' hm' ha he he' hpl) (nZ' fun ds d e B G I H σ Γ xs Q r h k=>by
 unfold setF at e
 split at e
 ·obtain ⟨ok,rfl⟩:=aQ' e
  obtain ⟨x,rfl,hx⟩:=h.one
  obtain ⟨q,zs,rfl,h3,h4⟩:=aJ' hx
  exact ⟨q,zs,_,I,rfl,(Same.rdK r.iH h3).sq,h4,fun d x hx=>hx.mono r.iH,ok.1,ok.2,fun l zs' hz hl=>k.new r hl hz⟩
 ·cases e)
end
end DL
namespace DL
open PySem PySem.W PySem.Spec PyProof.Rows L2
section
variable {X:Cx}{B:BB}{a st e:Expr}{es:List Expr}{pos p p2:Pos}{x:Str}{k:Nat}{f:Addr}{fd:FuncData}{ps:List Str}{g:List R->Option (R×List R)}{t:M (List D)}{ga gs:M D}
def scal:D->Bool
 | .tup _=>false
 | .lst _=>false
 | _=>true
theorem sf' {K:PySem.W.Frag}{J H:Hp}{d:D}{v:V} (s:scal d=true) (h:Is K J d v):Is K H d v:=by
 cases d<;>simp [scal] at s<;>(rw [Is] at h ⊢;exact h)
def lendF (g:List R->Option (R×List R)) (ds:List D):Option D:=match cvF g ds with
 | some d=>if scal d=true then some d else none
 | none=>none
def lendV (i:Nat) (g:List R->Option (R×List R)) (t:M (List D)):M D:=mutS i (bnd t fun ds=>bnd (look i) fun l=>lft (lendF g (l::ds)))
theorem pK' {K:PySem.W.Frag}{I H:Hp}{ds:List D}{vs:List V} (iH:Same I H) (h:IsA K I ds vs):Rep K (vB vs) H I H (vs.map some) ((ds.map R.val).map some) where
 iH:=iH
 gH:=Same.refl _
 len:=by rw [List.length_map,List.length_map,List.length_map,h.length]
 slot:=fun i q e=>by
  obtain ⟨_,e1,e2⟩:=getMap e
  cases e2
  obtain ⟨d,e3,rfl⟩:=getMap e1
  obtain ⟨v,e4,e5⟩:=h.get e3
  exact ⟨v,by rw [List.getElem?_map,e4];rfl,e5⟩
 dist:=fun i j q q' v e e' m=>by
  obtain ⟨_,e1,e2⟩:=getMap e
  cases e2
  obtain ⟨d,e3,rfl⟩:=getMap e1
  cases m
 bor:=fun i ds e=>rfl
theorem ty' {K:PySem.W.Frag}{E:XK}{i:Nat}:∀ σ H Q,tD K B (lendV i g t) σ H Q->tCall (spD K g) [] E (tCons (tVar i) (tAD K B t)) σ H Q:=fun σ H Q q=>by
 obtain ⟨G,I,Γ,d,Γ',r,e1,kk⟩:=q
 obtain ⟨hm,e2⟩:=ck' e1
 obtain ⟨ds,Γ1,e3,e4⟩:=ai' e2
 obtain ⟨l,Γ2,e5,e6⟩:=ai' e4
 obtain ⟨e7,rfl⟩:=ay' e6
 obtain ⟨b,ys,h1,_⟩:=bY' hm r
 refine ⟨_,h1,G,I,Γ,ds,Γ1,r,e3,fun ws H1 I1 r1 g1 hd=>?_⟩
 show spD K g ((.ref b::ws)++[]) H1 Q E
 rw [List.append_nil]
 obtain ⟨rfl,p,xs,cs,rfl,f1,f2,f3⟩:=dJ' e5 r1
 rw [h1] at f1
 cases f1
 unfold lendF at e7
 cases e8:cvF g (.lst cs::ds) with
 | none=>rw [e8] at e7;cases e7
 | some d' =>
  rw [e8] at e7
  obtain ⟨sc,rfl⟩:=aQ' e7
  unfold cvF at e8
  cases e9:g ((D.lst cs::ds).map .val) with
  | none=>rw [e9] at e8;cases e8
  | some q =>
   obtain ⟨rr,rs'⟩:=q
   rw [e9] at e8
   cases rr with
   | val d' =>
    cases e8
    have up:Same I1 (upd I1 b (.lst xs)):=fun c o z=>by
     by_cases hc:c=b
     ·subst hc
      have:=r1.iH c o z
      rw [f2] at this
      cases this
      exact au'
     ·rw [am' hc];exact z
    have upH:Same (upd I1 b (.lst xs)) H1:=fun c o z=>by
     by_cases hc:c=b
     ·subst hc
      rw [au'] at z
      cases z
      exact f2
     ·rw [am' hc] at z;exact r1.iH c o z
    have all:IsA K (upd I1 b (.lst xs)) (D.lst cs::ds) (.ref b::ws):=IsA.cons (Is.lst (RdK.of au') (f3.mono up)) (hd.mono up)
    refine ⟨H1,upd I1 b (.lst xs),(D.lst cs::ds).map .val,.val d,rs',pK' upH all,c5' _,e9,fun v H' I' r' g' hv=>?_⟩
    exact kk v H' I1 (r1.ext (Same.refl _) r'.gH ((up.trans g'.up).trans r'.iH) fun _ _ z=>.inl z) g1 (sf' sc hv)
   | own _=>cases e8
   | bor _=>cases e8
   | dic _=>cases e8
   | fro d' =>
    cases e8
    simp [scal] at sc
theorem sg' {i:Nat}{y:Str}{py:Pos} (F:FnOk X.prog X.w X.K X.mg X.base CX0 k f fd ps (spD X.K g)) (hr:Room k X.A) (hg:Gl X x) (hm:X.mg x=some (.ref f)) (hk:PySem.W.keepIn X.K (.ref f)=true) (hb:Binds X.K fd ps []) (hv:PE X (.Name y py) (tVar i)) (ha:AD X B es t)
  (hdb:(x == ("__debug__":Str))=false:=by decide) (he:starEach (.Name y py::es) X.env=(false,eval (.Name y py) X.env)::starEach es X.env:=by rfl) (hpl:(backTo pos (starEach es X.env)).any (·.1)=false:=by rfl) :
  ED X B (.Call (.Name x p) (.Name y py::es) [] pos) (lendV i g t):=PE.imp (f0' F hr hg hm hk hb .nil pass0 (c3' hv ha he) hdb he hpl) ty'
end
section
variable {X:Cx}{B:BB}{a st e:Expr}{pos p p2:Pos}{ga gs:M D}
def rvF (c k:D):Option (List D):=match c,k with
 | .lst ds,.int j=>if j=-1 then some ds.reverse else none
 | _,_=>none
end
end DL
namespace DL
open PySem PySem.W PySem.Spec PyProof.Rows L2
section
variable {X:Cx}{B:BB}{a:Expr}{pos p1:Pos}{ga:M D}{kr:Nat}
def inN (neg:Bool) (i:Nat) (g:M D):M D:=bnd g fun d=>bnd (look i) fun l=>lft (inF neg d l)
theorem uj' {K:PySem.W.Frag}{neg:Bool}{i:Nat}:∀ σ H Q,tD K B (inN neg i ga) σ H Q->tOp (rInD K neg) (tD K B ga) (tVar i) σ H Q:=fun σ H Q q=>by
 obtain ⟨G,I,Γ,d,Γ',r,e1,k⟩:=q
 obtain ⟨n,Γ1,e2,e3⟩:=ai' e1
 obtain ⟨l,Γ2,e4,e5⟩:=ai' e3
 obtain ⟨e6,rfl⟩:=ay' e5
 refine ⟨G,I,Γ,n,Γ1,r,e2,fun v H1 I1 r1 g1 hn=>?_⟩
 obtain ⟨rfl,p,xs,ds,rfl,f1,f2,f3⟩:=dJ' e4 r1
 obtain ⟨hd,rfl⟩:=aQ' e6
 exact ⟨.ref p,f1,n,ds,hn.mono r1.iH,.inl (Is.lst (RdK.of f2) (f3.mono r1.iH)),hd,(k.after g1).now r1 (Is.bl _)⟩
theorem nt' {i:Nat}{x:Str} (hr:Room kr X.A) (ha:ED X B a ga) (hv:PE X (.Name x p1) (tVar i)):TD X B (.Compare a [.NotIn] [.Name x p1] pos) (tst (inN true i ga)):=PT.imp (je' (jk' (hu100 hr)) ha hv rfl) (iH' uj')
end
end DL
namespace DL
open PySem PySem.W PySem.Spec PyProof.Rows L2
section
variable {X:Cx}{B:BB}{pos:Pos}{c:Expr}{body:List Stmt}{gc:M Bool}{gb:M Fl}
def whlS:Nat->M Bool->M Fl->M Fl
 | 0,_,_=>fun _=>none
 | n+1,c,b=>bnd c fun k=>if k=true then bnd b fun f=>match f with
   | .nx=>whlS n c b
   | .ct=>whlS n c b
   | .bk=>ret .nx
   | .rt r=>ret (.rt r)
  else ret .nx
theorem qV' {n:Nat} (hp:PassesOwn (model X.prog X.w) X.A X.env X.xe) (hc:TD X B c gc) (hb:SDs X B body gb):SD X B (.While c body [] pos) (whlS n gc gb):=PS.imp (qs' hp hc hb) fun E σ H q=>by
 obtain ⟨G,I,Γ,f,Γ',r,e1,k⟩:=q
 refine ⟨fun m σ H=>∃ I2 Γ2,Rep X.K B G I2 H σ Γ2/\Grow G I I2/\whlS m gc gb Γ2=some (f,Γ'),⟨n,I,Γ,r,Grow.refl _ _,e1⟩,?_⟩
 rintro m σ2 H2 ⟨I2,Γ2,r2,g2,e2⟩
 cases m with
 | zero=>cases e2
 | succ m =>
  obtain ⟨b,Γ3,e3,e4⟩:=ai' e2
  refine ⟨G,I2,Γ2,b,Γ3,r2,e3,fun H3 I3 r3 g3=>?_⟩
  cases b with
  | true =>
   rw [if_pos rfl] at e4 ⊢
   obtain ⟨fl,Γ4,e5,e6⟩:=ai' e4
   refine ⟨fun σ' H'=>∃ I4,Rep X.K B G I4 H' σ' Γ4/\Grow G I I4/\(fl=.nx\/fl=.ct),fun σ' H' ⟨I4,r4,g4,hf⟩=>⟨m,Nat.lt_succ_self m,I4,Γ4,r4,g4,?_⟩,G,I3,Γ3,fl,Γ4,r3,e5,fun σ5 H5 I5 r5 g5=>?_⟩
   ·rcases hf with rfl | rfl<;>exact e6
   ·have gg:Grow G I I5:=g2.trans (g3.trans g5)
    cases fl with
    | nx=>exact ⟨I5,r5,gg,.inl rfl⟩
    | ct=>exact ⟨I5,r5,gg,.inr rfl⟩
    | bk=>cases e6;exact k σ5 H5 I5 r5 gg
    | rt v=>cases e6;exact k σ5 H5 I5 r5 gg
  | false =>
   rw [if_neg Bool.false_ne_true] at e4 ⊢
   cases e4
   exact k σ2 H3 I3 r3 (g2.trans g3)
end
end DL
namespace DL
open PySem PySem.W PySem.Spec PyProof.Rows L2
section
variable {X:Cx}{B:BB}{pos:Pos}{e:Expr}{g:M (List D)}
def setY (i:Nat) (g:M (List D)):M Fl:=bnd g fun d=>bnd (putS i (.fro d)) fun _=>ret .nx
theorem pL' {K:PySem.W.Frag}{i:Nat}:∀ E σ H,tS K B (setY i g) E σ H->tAsg (tO K B g) (gName i) E σ H:=fun E σ H q=>by
 obtain ⟨G,I,Γ,f,Γ',r,e1,k⟩:=q
 obtain ⟨d1,Γ1,e2,e3⟩:=ai' e1
 obtain ⟨d2,Γ2,e4,e5⟩:=ai' e3
 cases e5
 obtain ⟨hl,rfl⟩:=ec' e4
 exact ⟨G,I,Γ,d1,Γ1,r,e2,fun p xs H1 I1 r1 g1 h1 h2 h3 h4 h5=>k _ H1 _ ((r1.freeze h1 h2 h4).store (by rw [r1.len];exact hl) ⟨p,xs,rfl,au',h3,h5.mono (aW' h2 _)⟩ (fun m=>nomatch m) (fun _ z=>nomatch z)) (g1.trans (growFreeze h2 h3))⟩
theorem sh' {i:Nat}{x:Str}{pos':Pos} (hN:X.N.Nodup) (he:EO X B e g) (hi:X.N[i]?=some x:=by rfl) (hx:Loc X.env.scope x:=by first | exact Or.inl rfl | exact Or.inr rfl) (hs:swapsWith e (some (.Name x pos')) pos.line X.env=pure false:=by rfl)
  (hf:X.fn x=true\/X.env.scope.names.lookup x=some .local:=by first | exact .inl rfl | exact .inr rfl):SD X B (.Assign [.Name x pos'] e pos) (setY i g):=PS.imp (iE' hN hi hx he hs hf) pL'
def froS (j:Nat):M (List D):=fun Γ=>match Γ[j]? with
 | some (some (.fro ds))=>some (ds,Γ)
 | _=>none
theorem lC' {j:Nat}{Γ Γ':Gm}{ds:List D} (h:froS j Γ=some (ds,Γ')):Γ'=Γ/\Γ[j]?=some (some (.fro ds)):=by
 unfold froS at h
 split at h
 ·rename_i e
  cases h
  exact ⟨rfl,e⟩
 ·cases h
def cpS (i j:Nat):M Fl:=bnd (froS j) fun d=>bnd (putS i (.fro d)) fun _=>ret .nx
theorem rz' {i j:Nat}{x y:Str}{pos' p:Pos} (hN:X.N.Nodup) (he:PE X (.Name y p) (tVar j)) (hi:X.N[i]?=some x:=by rfl) (hx:Loc X.env.scope x:=by first | exact Or.inl rfl | exact Or.inr rfl) (hs:swapsWith (.Name y p) (some (.Name x pos')) pos.line X.env=pure false:=by rfl)
  (hf:X.fn x=true\/X.env.scope.names.lookup x=some .local:=by first | exact .inl rfl | exact .inr rfl):SD X B (.Assign [.Name x pos'] (.Name y p) pos) (cpS i j):=PS.imp (iE' hN hi hx he hs hf) fun E σ H q=>by
 obtain ⟨G,I,Γ,f,Γ',r,e1,k⟩:=q
 obtain ⟨d1,Γ1,e2,e3⟩:=ai' e1
 obtain ⟨d2,Γ2,e4,e5⟩:=ai' e3
 cases e5
 obtain ⟨hl,rfl⟩:=ec' e4
 obtain ⟨rfl,at'⟩:=lC' e2
 obtain ⟨v,h1,h2⟩:=r.slot j _ at'
 exact ⟨v,h1,k _ H I (r.store (by rw [r.len];exact hl) h2 (fun m=>nomatch m) (fun _ z=>nomatch z)) (Grow.refl _ _)⟩
def retY (j:Nat):M Fl:=bnd (froS j) fun d=>ret (.rt (.fro d))
theorem si' {j:Nat}{y:Str}{p:Pos} (he:PE X (.Name y p) (tVar j)):SD X B (.Return (some (.Name y p)) pos) (retY j):=PS.imp (k2' he) fun E σ H q=>by
 obtain ⟨G,I,Γ,f,Γ',r,e1,k⟩:=q
 obtain ⟨d1,Γ1,e2,e3⟩:=ai' e1
 cases e3
 obtain ⟨rfl,at'⟩:=lC' e2
 obtain ⟨v,h1,h2⟩:=r.slot j _ at'
 exact ⟨v,h1,k σ H I r (Grow.refl _ _) v h2⟩
end
section
variable {X:Cx}{B:BB}{m:Nat}{elt tg iter:Expr}{ifs:List Expr}{scope:Scope}{pos:Pos}{N':List Str}{it:M (List D)}{tgt:D->M Unit}{ts:M Bool}{el:M D}
theorem my' {i:Nat}{y:Str}{py spos:Pos} (S:CompScope X.env.scope scope X.N N' m) (hc:X.calm=true) (hN:X.N.Nodup) (hi:ITD X B tg iter it)
  (hg:∀ C s H ex,GD (cxC X scope N' C s H ex) (bUp m B) m tg tgt) (ht:∀ C s H ex,TDs (cxC X scope N' C s H ex) (bUp m B) ifs ts) (he:∀ C s H ex,ED (cxC X scope N' C s H ex) (bUp m B) elt el)
  (hi':X.N[i]?=some y:=by rfl) (hy:X.env.scope.names.lookup y=some .local:=by rfl) (hsw:swapsWith (.ListComp elt [⟨tg,iter,ifs,0⟩] scope pos) (some (.Name y py)) spos.line X.env=pure true:=by rfl)
  (hs:∀ x,foldedSetIterable iter X.env x=pure x:=by intro _;rfl):SD X B (.Assign [.Name y py] (.ListComp elt [⟨tg,iter,ifs,0⟩] scope pos) spos) (setY i (compO m it tgt ts el)):=PS.imp (iJ' (g:=tGD X.K (bUp m B) m tgt) (tt:=tTD X.K (bUp m B) ts) (te:=tD X.K (bUp m B) el) S hc hN hi' hy hi hg ht he hsw hs) fun E σ H q=>by
 have z:=pL' E σ H q
 exact lb' σ H _ z
end
end DL
namespace DL
open PySem
end DL
namespace DL
open PySem PySem.W PySem.Spec PyProof.Rows L2
section
variable {X:Cx}{B:BB}{pos:Pos}{c e:Expr}{st:Stmt}{ss sa sb body:List Stmt}{g h:M Fl}{tc:M Bool}{ga:M D}
@[irreducible] def SI (X:Cx) (B:BB) (st:Stmt) (g:M Fl):Prop:=SD X B st g
@[irreducible] def SIs (X:Cx) (B:BB) (ss:List Stmt) (g:M Fl):Prop:=SDs X B ss g
theorem ak' (k:SD X B st g):SI X B st g:=by unfold SI;exact k
theorem aC' (k:SIs X B ss g):SDs X B ss g:=by unfold SIs at k;exact k
theorem aF':SIs X B [] (ret .nx):=by unfold SIs;exact rQ'
theorem aj' (k:SI X B st g):SIs X B [st] g:=by unfold SI at k;unfold SIs;exact rR' k
theorem af' (k:SI X B st g) (t:SIs X B ss h):SIs X B (st::ss) (seqS g h):=by unfold SI at k;unfold SIs at t ⊢;exact qy' k t
theorem aM' (hc:TD X B c tc) (ha:SIs X B sa g) (hb:SIs X B sb h):SI X B (.If c sa sb pos) (ifS tc g h):=by unfold SIs at ha hb;unfold SI;exact t9' hc ha hb
theorem aY' {m:Nat}{iter tg:Expr}{it:M (List D)}{tgt:D->M Unit} (hp:PassesOwn (model X.prog X.w) X.A X.env X.xe) (hc:X.calm=true) (hi:ITD X B tg iter it) (hg:GD X B m tg tgt) (hb:SIs X B body g)
  (hs:∀ x,foldedSetIterable iter X.env x=pure x:=by intro _;rfl):SI X B (.For tg iter body [] pos) (forS it tgt g):=by unfold SIs at hb;unfold SI;exact tf' hp hc hi hg hb hs
theorem lD' {n:Nat}{gc:M Bool} (hp:PassesOwn (model X.prog X.w) X.A X.env X.xe) (hc:TD X B c gc) (hb:SIs X B body g):SI X B (.While c body [] pos) (whlS n gc g):=by unfold SIs at hb;unfold SI;exact qV' hp hc hb
theorem ao' {i:Nat}{x:Str}{pos':Pos} (hN:X.N.Nodup) (he:ED X B e ga) (hi:X.N[i]?=some x:=by rfl) (hx:Loc X.env.scope x:=by first | exact Or.inl rfl | exact Or.inr rfl) (hs:swapsWith e (some (.Name x pos')) pos.line X.env=pure false:=by rfl)
  (hf:X.fn x=true\/X.env.scope.names.lookup x=some .local:=by first | exact .inl rfl | exact .inr rfl):SI X B (.Assign [.Name x pos'] e pos) (setV i ga):=by unfold SI;exact td' hN he hi hx hs hf
end
end DL
namespace DL
open PySem PySem.W PySem.Spec PyProof.Rows L2
section
variable {X:Cx}{pins:List (Addr×Obj)}{σ:L2.St}{H:Hp}{s:Shared}
end
end DL
namespace DL
open PySem PySem.W PySem.Spec PyProof.Rows L2
section
variable {X:Cx}{B:BB}{e a st:Expr}{es:List Expr}{pos:Pos}{t:M (List D)}
def lastF (d:D):Option D:=match d with
 | .lst ds=>ds[ds.length - 1]?
 | _=>none
def popV (i:Nat):M D:=mutS i (bnd (look i) fun l=>bnd (lft (lastF l)) fun d=>bnd (wr i fun ds=>some ds.dropLast) fun _=>ret d)
theorem IsA.dropLast {K:PySem.W.Frag}{I:Hp}{ds:List D}{xs:List V} (h:IsA K I ds xs):IsA K I ds.dropLast xs.dropLast:=by
 rw [List.dropLast_eq_take,List.dropLast_eq_take,← h.length]
 exact h.take _
theorem tz' {i:Nat}{x:Str}{p1 apos cpos:Pos} (hv:PE X (.Name x p1) (tVar i))
  (hbase:attributeBase (.Name x p1) "pop" X.env (eval (.Name x p1) X.env)=eval (.Name x p1) X.env:=by rfl) (hline:(apos.endLine == cpos.line)=true:=by rfl) :
  ED X B (.Call (.Attribute (.Name x p1) "pop" apos) [] [] cpos) (popV i) :=
 PE.imp (s3' PySem.F.plainAttrs_list PySem.F.slot_list_pop PySem.F.type_list_pop s4' hv hbase hline) fun σ H Q q=>by
  obtain ⟨G,I,Γ,d,Γ',r,e1,k⟩:=q
  obtain ⟨hm,e1⟩:=ck' e1
  obtain ⟨l,Γ1,e2,e3⟩:=ai' e1
  obtain ⟨d',Γ2,e4,e5⟩:=ai' e3
  obtain ⟨u,Γ3,e6,e7⟩:=ai' e5
  obtain ⟨e8,rfl⟩:=ay' e4
  clear e4
  cases e7
  obtain ⟨rfl,p,xs,ds,rfl,h1,h2,h3⟩:=dJ' e2 r
  obtain ⟨p',xs',cs,es',h4,h5,h6,h7,h8⟩:=gJ' e6 r
  have hp:p'=p:=by rw [h1] at h4;cases h4;rfl
  subst hp
  rw [h2] at h5
  cases h5
  cases h7
  unfold lastF at e8
  obtain ⟨v,hv1,hv2⟩:=h3.get e8
  rw [h3.length] at hv1
  exact ⟨_,h1,.inl ⟨rfl,xs,SqL.of h2⟩,p',xs,v,rfl,rfl,h2,hv1,k v _ I (h8 _ h6.dropLast) (Grow.refl _ _) hv2⟩
end
section
variable {X:Cx}{B:BB}{e a st:Expr}{es:List Expr}{pos p p2:Pos}{t:M (List D)}{ga gs:M D}{kr:Nat}
end
end DL
namespace DL
open PySem PySem.W PySem.Spec PyProof.Rows L2
section
variable {K:PySem.W.Frag}{I:Hp}
end
section
variable {K:PySem.W.Frag}{B:BB}{G I H:Hp}{σ:L2.St}{Γ:Gm}
end
section
variable (K:PySem.W.Frag) (B:BB)
end
section
variable {X:Cx}{B:BB}{e k v:Expr}{es:List Expr}{pos p:Pos}{g:M (List (Int×D))}{gk gv:M D}
end
end DL
namespace DL
open PySem PySem.W PySem.Spec PyProof.Rows L2
section
variable {prog:Program}{w:World}{A:Around}{E:Value->Shared->Prop}{s:Shared}
end
end DL
namespace DL
open PySem PySem.W PySem.Spec PyProof.Rows L2
section
variable {X:Cx}
end
section
variable {X:Cx}{B:BB}{e k v f':Expr}{es:List Expr}{pos p:Pos}{g:M (List (Int×D))}{gk gv gx:M D}{kr:Nat}
end
end DL
namespace DL
open PySem PySem.W PySem.Spec PyProof.Rows L2
open PySem.SeqAt
open PySem.AutoSeq1 (wpAny_loadPart')
open PySem.MeetsSeq PySem.MeetsSeq2 PySem.MeetsSeq3
section
variable {prog:Program}{w:World}{A:Around}{E:Value->Shared->Prop}{s:Shared}
end
section
variable {X:Cx}{B:BB}{a st e:Expr}{pos p p2:Pos}{ga gs:M D}
end
end DL
namespace DL
open PySem PySem.W PySem.Spec PyProof.Rows L2
section
variable {X:Cx}{B:BB}{e:Expr}{st:Stmt}{pos:Pos}
end
end DL
namespace DL
open PySem PySem.W PySem.Spec PyProof.Rows L2
open PySem.SeqAt
open PySem.AutoSeq1 (wpAny_loadPart')
open PySem.MeetsSeq PySem.MeetsSeq2 PySem.MeetsSeq3
section
variable {X:Cx}{B:BB}{e a b st:Expr}{es:List Expr}{pos p p2:Pos}{t:M (List D)}{ga gb gs:M D}{kr:Nat}
end
section
variable {prog:Program}{w:World}{A:Around}{E:Value->Shared->Prop}{s:Shared}
end
section
variable {X:Cx}{B:BB}{e a b st:Expr}{pos p p2:Pos}{ga gb gs:M D}
end
section
variable {prog:Program}{w:World}{A:Around}{E:Value->Shared->Prop}{s:Shared}
end
section
variable {X:Cx}{B:BB}{a b:Expr}{pos:Pos}{ga gb:M D}
end
def isStar:Expr->Bool
 | .Starred ..=>true
 | _=>false
theorem tA' {e:Expr}{rest:List Expr}{env:Env} (h:isStar e=false):starEach (e::rest) env=(false,eval e env)::starEach rest env:=by
 cases e<;>first | rfl | (simp [isStar] at h)
theorem ab' {X:Cx}{B:BB}{e:Expr}{es:List Expr}{g:M D}{t:M (List D)} (ha:ED X B e g) (hr:AD X B es t) (h:isStar e=false):AD X B (e::es) (consA g t):=rP' ha hr (tA' h)
end DL
namespace DL
open PySem PySem.Spec PyProof.Rows L2
def kAll (f:Expr->Option (M D)):List Expr->Option (M (List D))
 | []=>some nilA
 | e::es=>match f e with
  | some g=>match kAll f es with
   | some t=>some (consA g t)
   | none=>none
  | none=>none
def kM:Nat->Expr->Option (M D)
 | 0,_=>none
 | n+1,e=>match e with
  | .Constant (.int i) _ _=>some (ret (.int i))
  | .Constant (.bool b) _ _=>some (ret (.bl b))
  | .Constant .none _ _=>some (ret .non)
  | .Constant (.str x) _ _=>some (ret (.str x))
  | .UnaryOp .USub a _=>match kM n a with
   | some g=>some (un1 negI g)
   | none=>none
  | .BinOp a .Pow b _=>match kM n a with
   | some g=>match kM n b with
    | some h=>some (op2 powI g h)
    | none=>none
   | none=>none
  | .Tuple es _ _=>match kAll (kM n) es with
   | some t=>some (tupA t)
   | none=>none
  | .List es _=>match kAll (kM n) es with
   | some t=>some (frz (lstA t))
   | none=>none
  | _=>none
section
variable {X:Cx}{B:BB}
theorem hN' {f:Expr->Option (M D)} (hf:∀ e g,f e=some g->ED X B e g/\isStar e=false):∀ (es:List Expr) (t:M (List D)),kAll f es=some t->AD X B es t
 | [],t,h=>by cases h;exact ac'
 | e::es,t,h=>by
  rw [kAll] at h
  split at h
  ·rename_i g hg
   split at h
   ·rename_i t' ht
    cases h
    obtain ⟨h1,h2⟩:=hf e g hg
    exact ab' h1 (hN' hf es t' ht) h2
   ·cases h
  ·cases h
theorem hO':∀ (n:Nat) (e:Expr) (g:M D),kM n e=some g->ED X B e g/\isStar e=false
 | 0,_,_,h=>by cases h
 | n+1,e,g,h=>by
  unfold kM at h
  split at h
  ·cases h;exact ⟨ag',rfl⟩
  ·cases h;exact ⟨dC',rfl⟩
  ·cases h;exact ⟨fa',rfl⟩
  ·cases h;exact ⟨bu',rfl⟩
  ·split at h
   ·rename_i g' hg
    cases h
    exact ⟨tr' (hO' n _ _ hg).1,rfl⟩
   ·cases h
  ·split at h
   ·rename_i g' hg
    split at h
    ·rename_i g2 hg2
     cases h
     exact ⟨ld' (hO' n _ _ hg).1 (hO' n _ _ hg2).1,rfl⟩
    ·cases h
   ·cases h
  ·split at h
   ·rename_i t ht
    cases h
    exact ⟨aN' (hN' (hO' n) _ _ ht),rfl⟩
   ·cases h
  ·split at h
   ·rename_i t ht
    cases h
    exact ⟨aw' (aO' (hN' (hO' n) _ _ ht)),rfl⟩
   ·cases h
  ·cases h
theorem cz' {e1 e2 e3 e4:Expr}{es:List Expr}{g1 g2 g3 g4:M D}{t:M (List D)} (h1:ED X B e1 g1) (h2:ED X B e2 g2) (h3:ED X B e3 g3) (h4:ED X B e4 g4) (hr:AD X B es t) (s1:isStar e1=false) (s2:isStar e2=false) (s3:isStar e3=false) (s4:isStar e4=false):AD X B (e1::e2::e3::e4::es) (consA g1 (consA g2 (consA g3 (consA g4 t)))) :=
 ab' h1 (ab' h2 (ab' h3 (ab' h4 hr s4) s3) s2) s1
theorem ad_k {es:List Expr}{t:M (List D)} (h:kAll (kM 9) es=some t):AD X B es t:=hN' (hO' 9) es t h
end
inductive KCs:List Expr->M (List D)->Prop
 | nil:KCs [] nilA
 | int {i:Int} {a b es t}:KCs es t->KCs (.Constant (.int i) a b::es) (consA (ret (.int i)) t)
 | bl {i:Bool} {a b es t}:KCs es t->KCs (.Constant (.bool i) a b::es) (consA (ret (.bl i)) t)
 | non {a b es t}:KCs es t->KCs (.Constant .none a b::es) (consA (ret .non) t)
 | str {i:Str} {a b es t}:KCs es t->KCs (.Constant (.str i) a b::es) (consA (ret (.str i)) t)
 | tup {fs u x p es t}:KCs fs u->KCs es t->KCs (.Tuple fs x p::es) (consA (tupA u) t)
end DL
namespace DL
open PySem PySem.W PySem.Spec PyProof.Rows L2 PySem.SetTable
section
variable {prog:Program}{w:World}{A:Around}{E:Value->Shared->Prop}{s:Shared}
variable {X:Cx}{pins:List (Addr×Obj)}{σ:L2.St}{H:Hp}
end
section
variable {X:Cx}{pins:List (Addr×Obj)}{σ:L2.St}{H:Hp}{s:Shared}{A:Around}
end
end DL
namespace DL
open PySem PySem.W PySem.Spec PyProof.Rows L2 PySem.SetTable
section
variable {X:Cx}{B:BB}{e:Expr}{pos pos':Pos}{kr:Nat}
variable {a b c c':Expr}{ga gb gc gd:M D}
end
section
variable {prog:Program}{w:World}{A:Around}{E:Value->Shared->Prop}{s:Shared}
end
section
variable {X:Cx}
end
section
variable {X:Cx}{B:BB}{e:Expr}{pos:Pos}{kr:Nat}
end
end DL
namespace DL
open PySem PySem.W PySem.Spec PyProof.Rows L2
end DL
namespace DL
open PySem PySem.W PySem.Spec PyProof.Rows L2
section
variable {X:Cx}{B:BB}{a b e:Expr}{ga gb:M D}{pos:Pos}{kr:Nat}
end
end DL
namespace DL
open PySem PySem.W PySem.Spec PyProof.Rows L2
section
variable {X:Cx}{B:BB}{e:Expr}{t:M (List D)}{pos:Pos}
def pkF (as:List D) (l:D):Option D:=match as,l with
 | [.int n],.lst ds=>if 0<=n/\n < 1000000 then ds[n.toNat]? else none
 | _,_=>none
def ersF (as:List D) (ds:List D):Option (List D):=match as with
 | [.int n]=>some (ds.eraseIdx n.toNat)
 | _=>none
def popAt (i:Nat) (t:M (List D)):M D:=mutS i (bnd t fun as=>bnd (look i) fun l=>bnd (lft (pkF as l)) fun d=>bnd (wr i (ersF as)) fun _=>ret d)
theorem IsA.eraseIdx {K:PySem.W.Frag}{I:Hp}:∀ {ds:List D}{xs:List V} (n:Nat),IsA K I ds xs->IsA K I (ds.eraseIdx n) (xs.eraseIdx n)
 | [],xs,n,h=>by rw [h.nil_inv];exact IsA.nil
 | d::ds,xs,n,h=>by
  obtain ⟨x,r,rfl,h1,h2⟩:=h.cons_inv
  cases n with
  | zero=>exact h2
  | succ n=>exact IsA.cons h1 (IsA.eraseIdx n h2)
theorem qW' {i:Nat}{x:Str}{p1 apos cpos:Pos} (hv:PE X (.Name x p1) (tVar i)) (ha:AD X B [e] t)
  (hbase:attributeBase (.Name x p1) "pop" X.env (eval (.Name x p1) X.env)=eval (.Name x p1) X.env:=by rfl)
  (hfew:((backTo cpos (starEach [e] X.env)).all (fun x=>!x.1)&&(backToKw cpos (keywordEach [] X.env)).all (fun x=>x.1.isSome)&&decide ([e].length+([]:List Keyword).length+(if ([]:List Keyword).isEmpty then 0 else 1) < 30))=true:=by rfl)
  (hline:(apos.endLine == cpos.line)=true:=by rfl) (hse:starEach [e] X.env=(false,eval e X.env)::starEach [] X.env:=by rfl) (hplain:(backTo cpos (starEach [] X.env)).any (·.1)=false:=by rfl) :
  ED X B (.Call (.Attribute (.Name x p1) "pop" apos) [e] [] cpos) (popAt i t) :=
 PE.imp (nX' PySem.F.plainAttrs_list PySem.F.slot_list_pop PySem.F.type_list_pop qx' hv ha hbase hfew hline hse hplain) fun σ H Q q=>by
  obtain ⟨G,I,Γ,d,Γ',r,e1,k⟩:=q
  obtain ⟨hm,e1⟩:=ck' e1
  obtain ⟨as,Γ0,f1,f2⟩:=ai' e1
  obtain ⟨p,xs,h1,h2⟩:=bY' hm r
  refine ⟨_,h1,.inl ⟨rfl,xs,SqL.of h2⟩,G,I,Γ,as,Γ0,r,f1,fun vs H1 I1 r1 g1 hd=>?_⟩
  obtain ⟨l,Γ1,e2,e3⟩:=ai' f2
  obtain ⟨d',Γ2,e4,e5⟩:=ai' e3
  obtain ⟨u,Γ3,e6,e7⟩:=ai' e5
  obtain ⟨e8,rfl⟩:=ay' e4
  clear e4
  cases e7
  obtain ⟨rfl,p2,xs2,ds,rfl,i1,i2,i3⟩:=dJ' e2 r1
  obtain ⟨p',xs',cs,es',h4,h5,h6,h7,h8⟩:=gJ' e6 r1
  have hp:p'=p:=by rw [h1] at h4;cases h4;rfl
  subst hp
  have hp2:p2=p':=by rw [h1] at i1;cases i1;rfl
  subst hp2
  rw [i2] at h5
  cases h5
  unfold pkF at e8
  split at e8
  ·rename_i n ds' eq
   cases eq
   have ok:0<=n/\n < 1000000:=by
    rcases Decidable.em (0<=n/\n < 1000000) with z | z
    ·exact z
    ·rw [if_neg z] at e8;cases e8
   rw [if_pos ok] at e8
   obtain ⟨y,rfl,hy⟩:=hd.one
   rw [ar' hy]
   obtain ⟨v,hv1,hv2⟩:=i3.get e8
   cases h7
   have lt:n.toNat < xs2.length:=(List.getElem?_eq_some_iff.mp hv1).1
   exact ⟨p2,xs2,n,n.toNat,v,rfl,rfl,i2,Int.le_trans (by decide) ok.1,Int.lt_of_lt_of_le ok.2 (by decide),PySem.StrLaws.seqIndex_nonneg ok.1 (by omega),hv1,k v _ I1 (h8 _ (h6.eraseIdx _)) g1 hv2⟩
  ·cases e8
end
end DL
namespace DL
open PySem L2
variable {α β:Type}
def wp (m:M α) (Γ:Gm) (Q:α->Gm->Prop):Prop:=∃ a Γ',m Γ=some (a,Γ')/\Q a Γ'
def wpF (g:List R->Option (R×List R)) (rs:List R) (Q:R->List R->Prop):Prop:=∃ r rs',g rs=some (r,rs')/\Q r rs'
def wpB (g:List R->Option (R×List R)) (c ds:List D) (Q:R->List D->Prop):Prop:=∃ r c',bcF g c ds=some (r,c')/\Q r c'
section
variable {Γ:Gm}{Q:α->Gm->Prop}{QD:D->Gm->Prop}{QL:List D->Gm->Prop}{QB:Bool->Gm->Prop}{QS:Fl->Gm->Prop}{QU:Unit->Gm->Prop}
theorem wp.mono {m:M α}{Q':α->Gm->Prop} (h:wp m Γ Q) (f:∀ a Γ,Q a Γ->Q' a Γ):wp m Γ Q':=by
 obtain ⟨a,Γ',e,q⟩:=h
 exact ⟨a,Γ',e,f _ _ q⟩
@[simp ↓] theorem du' {a:α}:wp (ret a) Γ Q↔Q a Γ:=by
 constructor
 ·rintro ⟨b,Γ',e,q⟩;cases e;exact q
 ·intro q;exact ⟨_,_,rfl,q⟩
@[simp ↓] theorem aP' {β:Type}{m:M β}{f:β->M α}:wp (bnd m f) Γ Q↔wp m Γ fun b Γ1=>wp (f b) Γ1 Q:=by
 constructor
 ·rintro ⟨a,Γ',e,q⟩
  obtain ⟨b,Γ1,e1,e2⟩:=ai' e
  exact ⟨b,Γ1,e1,a,Γ',e2,q⟩
 ·rintro ⟨b,Γ1,e1,a,Γ',e2,q⟩
  exact ⟨a,Γ',by unfold bnd;rw [e1];exact e2,q⟩
@[simp ↓] theorem tC' {a:α}:wp (lft (some a)) Γ Q↔Q a Γ:=by
 constructor
 ·rintro ⟨b,Γ',e,q⟩;cases e;exact q
 ·intro q;exact ⟨_,_,rfl,q⟩
theorem gY' {o:Option α}{a:α} (h:o=some a):wp (lft o) Γ Q↔Q a Γ:=by rw [h,tC']
@[simp ↓] theorem wn' {i:Nat}:wp (nm i) Γ QD↔match Γ[i]? with
  | some (some (.val d))=>QD d Γ
  | some (some (.own ds))=>QD (.lst ds) (Γ.set i (some (.val (.lst ds))))
  | some (some (.fro ds))=>QD (.lst ds) Γ
  | _=>False:=by
 unfold wp nm
 rcases e:Γ[i]? with _ | _ | r
 ·simp
 ·simp
 ·cases r<;>simp<;>exact ⟨fun ⟨_,_,⟨h1,h2⟩,q⟩=>by subst h1;subst h2;exact q,fun q=>⟨_,_,⟨rfl,rfl⟩,q⟩⟩
@[simp ↓] theorem vJ' {F:D->D->Option α}{a b:M D}:wp (op2 F a b) Γ Q↔wp a Γ fun x Γ1=>wp b Γ1 fun y Γ2=>wp (lft (F x y)) Γ2 Q:=by simp [op2]
@[simp ↓] theorem vK' {F:List D->Option α}{t:M (List D)}:wp (fn1 F t) Γ Q↔wp t Γ fun ds Γ1=>wp (lft (F ds)) Γ1 Q:=by simp [fn1]
@[simp ↓] theorem u8':wp nilA Γ QL↔QL [] Γ:=by simp [nilA]
@[simp ↓] theorem uZ' {g:M D}{t:M (List D)}:wp (consA g t) Γ QL↔wp g Γ fun d Γ1=>wp t Γ1 fun ds Γ2=>QL (d::ds) Γ2:=by simp [consA]
@[simp ↓] theorem u9' {t:M (List D)}:wp (tupA t) Γ QD↔wp t Γ fun ds Γ1=>wp (lft (if ds.length<=lim then some (.tup ds) else none)) Γ1 QD:=by simp [tupA]
@[simp ↓] theorem va' {t:M (List D)}:wp (lstA t) Γ QL↔wp t Γ fun ds Γ1=>wp (lft (if ds.length<=lim then some ds else none)) Γ1 QL:=by simp [lstA]
@[simp ↓] theorem vL' {t:M (List D)}:wp (frz t) Γ QD↔wp t Γ fun ds Γ1=>QD (.lst ds) Γ1:=by simp [frz]
@[simp ↓] theorem vM' {g:M D}:wp (tst g) Γ QB↔wp g Γ fun d Γ1=>wp (lft (asB d)) Γ1 QB:=by simp [tst]
@[simp] theorem vN' {b:Bool}:asB (.bl b)=some b:=rfl
@[simp] theorem vb' {b:Int}:asI (.int b)=some b:=rfl
@[simp ↓] theorem vO' {F F':D->D->Option D}{a b c:M D}:wp (chn F F' a b c) Γ QD↔wp a Γ fun x Γ1=>wp b Γ1 fun y Γ2=>wp (lft (F x y)) Γ2 fun z Γ3=>wp (lft (asB z)) Γ3 fun k Γ4=>if k=true then wp c Γ4 fun w Γ5=>wp (lft (F' y w)) Γ5 QD else QD (.bl false) Γ4:=by
 simp only [chn,aP']
 constructor<;>(intro h;refine h.mono fun x Γ1 h=>h.mono fun y Γ2 h=>h.mono fun z Γ3 h=>h.mono fun k Γ4 h=>?_)<;>(cases k<;>simpa using h)
@[simp ↓] theorem vc' {a b:M Bool}:wp (andT a b) Γ QB↔wp a Γ fun k Γ1=>if k=true then wp b Γ1 QB else QB false Γ1:=by
 simp only [andT,aP']
 constructor<;>(intro h;refine h.mono fun k Γ1 h=>?_)<;>(cases k<;>simpa using h)
@[simp ↓] theorem vP' {a b:M Bool}:wp (orT a b) Γ QB↔wp a Γ fun k Γ1=>if k=true then QB true Γ1 else wp b Γ1 QB:=by
 simp only [orT,aP']
 constructor<;>(intro h;refine h.mono fun k Γ1 h=>?_)<;>(cases k<;>simpa using h)
@[simp ↓] theorem vd' {a:M Bool}:wp (notT a) Γ QB↔wp a Γ fun k Γ1=>QB (!k) Γ1:=by simp [notT]
@[simp ↓] theorem ve' {a b:M D}:wp (andV a b) Γ QD↔wp a Γ fun d Γ1=>wp (lft (asB d)) Γ1 fun k Γ2=>if k=true then wp b Γ2 QD else QD (.bl false) Γ2:=by
 simp only [andV,aP']
 constructor<;>(intro h;refine h.mono fun d Γ1 h=>h.mono fun k Γ2 h=>?_)<;>(cases k<;>simpa using h)
@[simp ↓] theorem vQ' {a b:M D}:wp (orV a b) Γ QD↔wp a Γ fun d Γ1=>wp (lft (asB d)) Γ1 fun k Γ2=>if k=true then QD (.bl true) Γ2 else wp b Γ2 QD:=by
 simp only [orV,aP']
 constructor<;>(intro h;refine h.mono fun d Γ1 h=>h.mono fun k Γ2 h=>?_)<;>(cases k<;>simpa using h)
@[simp ↓] theorem vf' {a:M D}:wp (notV a) Γ QD↔wp a Γ fun d Γ1=>wp (lft (asB d)) Γ1 fun k Γ2=>QD (.bl (!k)) Γ2:=by simp [notV]
@[simp ↓] theorem vR' {c:M Bool}{a b:M D}:wp (ifV c a b) Γ QD↔wp c Γ fun k Γ1=>if k=true then wp a Γ1 QD else wp b Γ1 QD:=by
 simp only [ifV,aP']
 constructor<;>(intro h;refine h.mono fun k Γ1 h=>?_)<;>(cases k<;>simpa using h)
theorem nu' {a b:M Fl}:wp (seqS a b) Γ QS↔wp a Γ fun f Γ1=>match f with
  | .nx=>wp b Γ1 QS
  | .rt r=>QS (.rt r) Γ1
  | .bk=>QS .bk Γ1
  | .ct=>QS .ct Γ1:=by
 simp only [seqS,aP']
 constructor<;>(intro h;refine h.mono fun f Γ1 h=>?_)<;>(cases f<;>simpa using h)
@[simp ↓] theorem u0' {a:M D}:wp (dropS a) Γ QS↔wp a Γ fun _ Γ1=>QS .nx Γ1:=by simp [dropS]
@[simp ↓] theorem vg' {a:M D}:wp (retS a) Γ QS↔wp a Γ fun d Γ1=>QS (.rt (.val d)) Γ1:=by simp [retS]
@[simp ↓] theorem vh' {a:M (List D)}:wp (retO a) Γ QS↔wp a Γ fun d Γ1=>QS (.rt (.own d)) Γ1:=by simp [retO]
@[simp ↓] theorem pM' {c:M Bool}{a b:M Fl}:wp (ifS c a b) Γ QS↔wp c Γ fun k Γ1=>if k=true then wp a Γ1 QS else wp b Γ1 QS:=by
 simp only [ifS,aP']
 constructor<;>(intro h;refine h.mono fun k Γ1 h=>?_)<;>(cases k<;>simpa using h)
@[simp ↓] theorem sj' {i:Nat}{q:R}:wp (putS i q) Γ QU↔i < Γ.length/\QU () (Γ.set i (some q)):=by
 unfold wp putS
 constructor
 ·rintro ⟨a,Γ',e,h⟩
  obtain ⟨h1,h2⟩:=aQ' e
  cases h2
  exact ⟨h1,h⟩
 ·rintro ⟨h1,h2⟩
  exact ⟨(),_,by rw [if_pos h1],h2⟩
@[simp ↓] theorem vS' {i:Nat}{d:D}:wp (tgN i d) Γ QU↔i < Γ.length/\QU () (Γ.set i (some (.val d))):=by simp [tgN]
@[simp ↓] theorem u1':wp (tgNil []) Γ QU↔QU () Γ:=by simp [tgNil]
@[simp ↓] theorem uQ' {f:D->M Unit}{t:List D->M Unit}{d:D}{ds:List D}:wp (tgCons f t (d::ds)) Γ QU↔wp (f d) Γ fun _ Γ1=>wp (t ds) Γ1 QU:=by simp [tgCons]
@[simp ↓] theorem u2' {n:Nat}{t:List D->M Unit}{ds:List D}:wp (tgTup n t (.tup ds)) Γ QU↔ds.length=n/\wp (t ds) Γ QU:=by
 unfold tgTup
 by_cases h:ds.length=n
 ·simp [h]
 ·simp only [h,if_false,false_and,iff_false]
  rintro ⟨_,_,e,_⟩;cases e
@[simp ↓] theorem vi' {g:M D}{f:D->M Unit}:wp (asgS g f) Γ QS↔wp g Γ fun d Γ1=>wp (f d) Γ1 fun _ Γ2=>QS .nx Γ2:=by simp [asgS]
@[simp ↓] theorem vj' {i:Nat}{g:M D}:wp (setV i g) Γ QS↔wp g Γ fun d Γ1=>i < Γ1.length/\QS .nx (Γ1.set i (some (.val d))):=by simp [setV]
@[simp ↓] theorem vk' {i:Nat}{g:M (List D)}:wp (setO i g) Γ QS↔wp g Γ fun d Γ1=>i < Γ1.length/\QS .nx (Γ1.set i (some (.own d))):=by simp [setO]
@[simp ↓] theorem c8' {i:Nat}{m:M α}:wp (mutS i m) Γ Q↔isMut Γ i=true/\wp m Γ Q:=by
 unfold mutS wp
 by_cases h:isMut Γ i=true
 ·simp [h]
 ·simp [h]
@[simp ↓] theorem wo' {i:Nat}{F:List D->Option (List D)}:wp (wr i F) Γ QU↔match Γ[i]? with
  | some (some (.own ds))=>∃ es,F ds=some es/\QU () (Γ.set i (some (.own es)))
  | some (some (.bor ds))=>∃ es,F ds=some es/\QU () (Γ.set i (some (.bor es)))
  | _=>False:=by
 unfold wp wr
 rcases e:Γ[i]? with _ | _ | r
 ·simp
 ·simp
 ·cases r with
  | val d=>simp
  | fro d=>simp
  | dic d=>simp
  | own ds =>
   rcases he:F ds with _ | es
   ·simp [he]
   ·simp [he]
    exact ⟨fun ⟨_,q⟩=>q,fun q=>⟨(),q⟩⟩
  | bor ds =>
   rcases he:F ds with _ | es
   ·simp [he]
   ·simp [he]
    exact ⟨fun ⟨_,q⟩=>q,fun q=>⟨(),q⟩⟩
@[simp ↓] theorem vl' {i:Nat}{g:M D}:wp (appS i g) Γ QS↔isMut Γ i=true/\wp g Γ fun d Γ1=>wp (wr i (appF d)) Γ1 fun _ Γ2=>QS .nx Γ2:=by simp only [appS,c8',aP',du']
@[simp ↓] theorem vm' {i:Nat}{g:M D}:wp (extS i g) Γ QS↔isMut Γ i=true/\wp g Γ fun d Γ1=>wp (wr i (extF d)) Γ1 fun _ Γ2=>QS .nx Γ2:=by simp only [extS,c8',aP',du']
@[simp ↓] theorem vT' {i:Nat}{gi gv:M D}:wp (stS i gi gv) Γ QS↔wp gv Γ fun d Γ1=>isMut Γ1 i=true/\wp gi Γ1 fun n Γ2=>wp (lft (asI n)) Γ2 fun k Γ3=>wp (wr i (stF k d)) Γ3 fun _ Γ4=>QS .nx Γ4:=by simp only [stS,c8',aP',du']
@[simp ↓] theorem vn' {i:Nat}:wp (look i) Γ QD↔match Γ[i]? with
  | some (some (.own ds))=>QD (.lst ds) Γ
  | some (some (.bor ds))=>QD (.lst ds) Γ
  | _=>False:=by
 unfold wp look
 rcases e:Γ[i]? with _ | _ | r
 ·simp
 ·simp
 ·cases r<;>simp<;>exact ⟨fun ⟨_,_,⟨h1,h2⟩,q⟩=>by subst h1;subst h2;exact q,fun q=>⟨_,_,⟨rfl,rfl⟩,q⟩⟩
@[simp ↓] theorem vU' {i:Nat}{g:M D}:wp (atN i g) Γ QD↔isMut Γ i=true/\wp g Γ fun n Γ1=>wp (look i) Γ1 fun l Γ2=>wp (lft (ixF l n)) Γ2 QD:=by simp only [atN,c8',aP']
@[simp ↓] theorem vo' {i:Nat}:wp (lenN i) Γ QD↔wp (look i) Γ fun l Γ2=>wp (lft (lenF [l])) Γ2 QD:=by simp only [lenN,aP']
@[simp ↓] theorem vp' {neg:Bool}{i:Nat}{g:M D}:wp (cmpN neg i g) Γ QD↔isMut Γ i=true/\wp g Γ fun n Γ1=>wp (look i) Γ1 fun l Γ2=>wp (lft (eqF neg l n)) Γ2 QD:=by simp only [cmpN,c8',aP']
@[simp ↓] theorem vV' {g:M D}{QO:Option Int->Gm->Prop}:wp (prt g) Γ QO↔wp g Γ fun d Γ1=>wp (lft (asI d)) Γ1 fun i Γ2=>QO (some i) Γ2:=by simp [prt]
@[simp ↓] theorem vW' {F:D->Option Int->Option Int->Option α}{g:M D}{gl gh:M (Option Int)}:wp (sl3 F g gl gh) Γ Q↔wp g Γ fun d Γ1=>wp gl Γ1 fun l Γ2=>wp gh Γ2 fun h Γ3=>wp (lft (F d l h)) Γ3 Q:=by simp [sl3]
@[simp ↓] theorem vX' {g:M D}:wp (itS g) Γ QL↔wp g Γ fun d Γ1=>wp (lft (seqI d)) Γ1 QL:=by simp [itS]
@[simp ↓] theorem vq' {it:M (List D)}{tgt:D->M Unit}{body:M Fl}:wp (forS it tgt body) Γ QS↔wp it Γ fun ds Γ1=>wp (forM tgt body ds) Γ1 QS:=by simp [forS]
@[simp ↓] theorem u3' {i:Nat}{g:List R->Option (R×List R)}{t:M (List D)}{QR:R->Gm->Prop}:wp (callB i g t) Γ QR↔isMut Γ i=true/\wp t Γ fun ds Γ1=>match Γ1[i]? with
  | some (some (.own c))=>wpB g c ds fun r c'=>QR r (Γ1.set i (some (.own c')))
  | some (some (.bor c))=>wpB g c ds fun r c'=>QR r (Γ1.set i (some (.bor c')))
  | _=>False:=by
 simp only [callB,c8',aP']
 refine and_congr_right fun _=>?_
 have key:∀ (ds:List D) (Γ1:Gm),wp (fun Γ:Gm=>match Γ[i]? with
   | some (some (.own c))=>match bcF g c ds with
    | some (r,c')=>some (r,Γ.set i (some (.own c')))
    | none=>none
   | some (some (.bor c))=>match bcF g c ds with
    | some (r,c')=>some (r,Γ.set i (some (.bor c')))
    | none=>none
   | _=>none) Γ1 QR↔(match Γ1[i]? with
  | some (some (.own c))=>wpB g c ds fun r c'=>QR r (Γ1.set i (some (.own c')))
  | some (some (.bor c))=>wpB g c ds fun r c'=>QR r (Γ1.set i (some (.bor c')))
  | _=>False):=by
  intro ds Γ1
  unfold wp wpB
  dsimp only
  rcases e:Γ1[i]? with _ | _ | r
  ·simp
  ·simp
  ·cases r with
   | val d=>simp
   | fro d=>simp
   | dic d=>simp
   | own c =>
    rcases he:bcF g c ds with _ | ⟨r,c'⟩
    ·simp [he]
    ·simp only [he]
     constructor
     ·rintro ⟨a,b,h,q⟩;cases h;exact ⟨_,_,rfl,q⟩
     ·rintro ⟨a,b,h,q⟩;cases h;exact ⟨_,_,rfl,q⟩
   | bor c =>
    rcases he:bcF g c ds with _ | ⟨r,c'⟩
    ·simp [he]
    ·simp only [he]
     constructor
     ·rintro ⟨a,b,h,q⟩;cases h;exact ⟨_,_,rfl,q⟩
     ·rintro ⟨a,b,h,q⟩;cases h;exact ⟨_,_,rfl,q⟩
 constructor
 ·intro h;exact h.mono fun ds Γ1 h=>(key ds Γ1).mp h
 ·intro h;exact h.mono fun ds Γ1 h=>(key ds Γ1).mpr h
@[simp ↓] theorem vY' {i:Nat}{g:List R->Option (R×List R)}{t:M (List D)}:wp (cbV i g t) Γ QD↔wp (callB i g t) Γ fun r Γ1=>wp (lft (asV r)) Γ1 QD:=by simp only [cbV,aP']
@[simp ↓] theorem vZ' {i:Nat}{g:List R->Option (R×List R)}{t:M (List D)}:wp (cbO i g t) Γ QL↔wp (callB i g t) Γ fun r Γ1=>wp (lft (asO r)) Γ1 QL:=by simp only [cbO,aP']
@[simp] theorem vr' {d:D}:asV (.val d)=some d:=rfl
@[simp] theorem vt' {d:List D}:asO (.own d)=some d:=rfl
theorem nv' {tgt:D->M Unit}{body:M Fl}{ds:List D} (J:Nat->Gm->Prop) (h0:J 0 Γ)
  (hs:∀ (i:Nat) (d:D) (Γ:Gm),ds[i]?=some d->J i Γ->wp (tgt d) Γ fun _ Γ1=>wp body Γ1 fun f Γ2=>match f with
   | .nx=>J (i+1) Γ2
   | .ct=>J (i+1) Γ2
   | .bk=>QS .nx Γ2
   | .rt r=>QS (.rt r) Γ2) (hd:∀ Γ,J ds.length Γ->QS .nx Γ):wp (forM tgt body ds) Γ QS:=by
 have key:∀ (n:Nat) (es:List D) (Γ:Gm) (i:Nat),es.length=n->ds.drop i=es->i<=ds.length->J i Γ->wp (forM tgt body es) Γ QS:=by
  intro n
  induction n with
  | zero =>
   intro es Γ i hl he hi hj
   have:es=[]:=List.length_eq_zero_iff.mp hl
   subst this
   have hi2:i=ds.length:=by
    have:=congrArg List.length he
    rw [List.length_drop] at this
    simp at this;omega
   subst hi2
   exact ⟨_,_,rfl,hd Γ hj⟩
  | succ n ih =>
   intro es Γ i hl he hi hj
   cases es with
   | nil=>simp at hl
   | cons d es =>
    have hlt:i < ds.length:=by
     have:=congrArg List.length he
     rw [List.length_drop,List.length_cons] at this
     omega
    have he2:ds.drop i=ds[i]::ds.drop (i+1):=List.drop_eq_getElem_cons hlt
    rw [he2] at he
    injection he with e1 e2
    have hd':ds[i]?=some d:=by rw [List.getElem?_eq_getElem hlt,e1]
    have step:=hs i d Γ hd' hj
    rw [forM,aP']
    refine step.mono fun _ Γ1 h1=>?_
    rw [aP']
    refine h1.mono fun f Γ2 h2=>?_
    cases f with
    | nx=>exact ih es Γ2 (i+1) (by simpa using hl) e2 hlt h2
    | ct=>exact ih es Γ2 (i+1) (by simpa using hl) e2 hlt h2
    | bk=>exact ⟨_,_,rfl,h2⟩
    | rt r=>exact ⟨_,_,rfl,h2⟩
 exact key ds.length ds Γ 0 rfl rfl (Nat.zero_le _) h0
theorem nw' {n ar:Nat}{body:M Fl}{rs:List R}{QR:R->List R->Prop} (hl:rs.length=ar) (h:wp body (rs.map some++List.replicate (n - rs.length) none) fun f Γ'=>∃ r,flR f=some r/\∃ l,fin rs Γ'=some l/\QR r l):wpF (fnD n ar body) rs QR:=by
 obtain ⟨f,Γ',e,r,e1,l,e2,q⟩:=h
 refine ⟨r,l,?_,q⟩
 unfold fnD
 rw [if_pos hl]
 unfold fnD1
 rw [e]
 simp only [e1,e2]
theorem tD' {g:List R->Option (R×List R)}{ds:List D}{d:D} (h:wpF g (ds.map .val) fun r _=>r=.val d):cvF g ds=some d:=by
 obtain ⟨r,rs',e,rfl⟩:=h
 unfold cvF
 rw [e]
theorem tE' {g:List R->Option (R×List R)}{ds:List D}{P:List D->Prop} (h:wpF g (ds.map .val) fun r _=>∃ d,r=.own d/\P d):∃ d,coF g ds=some d/\P d:=by
 obtain ⟨r,rs',e,d,rfl,hp⟩:=h
 exact ⟨d,by unfold coF;rw [e],hp⟩
theorem tF' {g:List R->Option (R×List R)}{c ds:List D}{QR:R->List D->Prop} (h:wpF g (.bor c::ds.map .val) fun r rs'=>∃ c' t,rs'=.bor c'::t/\QR r c'):wpB g c ds QR:=by
 obtain ⟨r,rs',e,c',t,rfl,q⟩:=h
 exact ⟨r,c',by unfold bcF;rw [e],q⟩
end
end DL
namespace DL
open PySem L2
section
variable {α:Type}{Γ:Gm}{Q:α->Gm->Prop}{QD:D->Gm->Prop}{QL:List D->Gm->Prop}{i j:Int}
@[simp ↓] theorem bZ' {c:Prop} [Decidable c]{a:α}:wp (lft (if c then some a else none)) Γ Q↔c/\Q a Γ:=by
 by_cases h:c
 ·simp [h]
 ·simp only [h,if_false,false_and,iff_false]
  rintro ⟨_,_,e,_⟩;cases e
@[simp ↓] theorem tX':wp (lft (none:Option α)) Γ Q↔False:=by
 simp only [iff_false]
 rintro ⟨_,_,e,_⟩;cases e
@[simp ↓] theorem vu':wp (fun _=>(none:Option (α×Gm))) Γ Q↔False:=by
 simp only [iff_false]
 rintro ⟨_,_,e,_⟩;cases e
@[simp] theorem wp':subI (.int i) (.int j)=some (.int (i - j)):=rfl
@[simp] theorem wq':addF (.int i) (.int j)=some (.int (i+j)):=rfl
@[simp] theorem f_lt:ltI (.int i) (.int j)=some (.bl (decide (i < j))):=rfl
@[simp] theorem f_le:leI (.int i) (.int j)=some (.bl (decide (i<=j))):=rfl
@[simp] theorem f_gt:gtI (.int i) (.int j)=some (.bl (decide (j < i))):=rfl
@[simp] theorem f_ge:geI (.int i) (.int j)=some (.bl (decide (j<=i))):=rfl
@[simp ↓] theorem v0':wp (lft (modI (.int i) (.int j))) Γ QD↔0 < j/\QD (.int (i % j)) Γ:=by simp [modI,intF]
@[simp ↓] theorem v1':wp (lft (divI (.int i) (.int j))) Γ QD↔(0 < j/\j < 2 ^ 200)/\QD (.int (i / j)) Γ:=by simp only [divI,intF,decide_eq_true_eq,bZ']
@[simp ↓] theorem v2':wp (lft (mulI (.int i) (.int j))) Γ QD↔((-(2 ^ 64) < i/\i < 2 ^ 64)\/(-(2 ^ 64) < j/\j < 2 ^ 64))/\QD (.int (i*j)) Γ:=by simp only [mulI,intF,decide_eq_true_eq,bZ']
@[simp ↓] theorem v3':wp (lft (powI (.int i) (.int j))) Γ QD↔(0<=j/\j<=1000000/\i.natAbs < 2 ^ 64)/\QD (.int (i ^ j.toNat)) Γ:=by simp only [powI,intF,decide_eq_true_eq,bZ']
@[simp] theorem wr' {ds:List D}:ixF (.lst ds) (.int i)=atI ds i:=rfl
@[simp] theorem ws' {ds:List D}:ixF (.tup ds) (.int i)=atI ds i:=rfl
theorem iV' {α:Type}{ds:List α}{n:Nat}:atI ds (n:Int)=ds[n]?:=by
 unfold atI ixN
 rw [if_pos (by omega)]
 by_cases h:(n:Int) < ds.length
 ·rw [if_pos h];simp
 ·rw [if_neg h]
  have:ds.length<=n:=by omega
  simp [List.getElem?_eq_none this]
@[simp] theorem wt' {α:Type}{a:α}{ds:List α}:atI (a::ds) 0=some a:=by
 rw [show (0:Int)=((0:Nat):Int) from rfl,iV'];rfl
@[simp] theorem wu' {α:Type}{a b:α}{ds:List α}:atI (a::b::ds) 1=some b:=by
 rw [show (1:Int)=((1:Nat):Int) from rfl,iV'];rfl
@[simp] theorem wv' {α:Type}{a b c:α}{ds:List α}:atI (a::b::c::ds) 2=some c:=by
 rw [show (2:Int)=((2:Nat):Int) from rfl,iV'];rfl
theorem lE' {α:Type}{ds:List α}{i:Int} (h0:0<=i) (h1:i < ds.length):∃ a,atI ds i=some a/\a∈ds:=by
 obtain ⟨n,rfl⟩:=Int.eq_ofNat_of_zero_le h0
 have h:n < ds.length:=by omega
 exact ⟨ds[n],by rw [iV',List.getElem?_eq_getElem h],List.getElem_mem h⟩
@[simp] theorem ww' {a d:D}{ds:List D}:stF 0 d (a::ds)=some (d::ds):=by
 unfold stF ixN
 rw [if_pos (by omega),if_pos (by simp)]
 rfl
@[simp] theorem wx' {a b d:D}{ds:List D}:stF 1 d (a::b::ds)=some (a::d::ds):=by
 unfold stF ixN
 rw [if_pos (by omega),if_pos (by simp;omega)]
 rfl
@[simp] theorem wy' {a b c d:D}{ds:List D}:stF 2 d (a::b::c::ds)=some (a::b::d::ds):=by
 unfold stF ixN
 rw [if_pos (by omega),if_pos (by simp;omega)]
 rfl
@[simp] theorem v4' {ds:List D}:lenF [.lst ds]=some (.int ds.length):=rfl
@[simp] theorem v5' {ds:List D}:lenF [.tup ds]=some (.int ds.length):=rfl
@[simp] theorem wz':minF [.int i,.int j]=some (.int (min i j)):=by
 unfold minF;dsimp only;congr 2;split<;>omega
@[simp] theorem wA':maxF [.int i,.int j]=some (.int (max i j)):=by
 unfold maxF;dsimp only;congr 2;split<;>omega
@[simp] theorem v6' {ds:List D}:tupF [.lst ds]=some (.tup ds):=rfl
@[simp] theorem v7' {ds:List D}:tupF [.tup ds]=some (.tup ds):=rfl
@[simp] theorem v8' {ds:List D}:lstF [.lst ds]=some ds:=rfl
@[simp] theorem v9' {ds:List D}:lstF [.tup ds]=some ds:=rfl
@[simp] theorem tG' {ds:List D}:seqI (.lst ds)=some ds:=rfl
@[simp] theorem wa' {ds:List D}:seqI (.tup ds)=some ds:=rfl
@[simp] theorem wb' {b:Bool}:reprF [.bl b]=some (.str (if b then "True" else "False")):=rfl
@[simp] theorem wB' {ds:List D}{lo hi:Option Int}:slF (.lst ds) lo hi=some (.lst (cutD ds lo hi)):=rfl
@[simp] theorem wc' {xs ys:List D}:zipI [.lst xs,.lst ys]=some (pairsD xs ys):=rfl
@[simp] theorem wd' {xs ys:List D}:zipI [.tup xs,.tup ys]=some (pairsD xs ys):=rfl
@[simp] theorem vv' {xs:List D}:enumI [.lst xs]=some (numD 0 xs):=rfl
@[simp] theorem vw' {xs:List D}:enumI [.tup xs]=some (numD 0 xs):=rfl
@[simp ↓] theorem vx':wp (lft (rngI1 [.int j])) Γ QL↔(-1000000<=j/\j<=1000000)/\QL (rngD 0 j.toNat) Γ:=by simp only [rngI1,bZ']
@[simp ↓] theorem vy':wp (lft (rngI2 [.int i,.int j])) Γ QL↔((-1000000<=i/\i<=1000000)/\-1000000<=j/\j<=1000000)/\QL (rngD i (j - i).toNat) Γ:=by simp only [rngI2,bZ']
@[simp ↓] theorem wC' {neg:Bool}{a b:D}:wp (lft (eqF neg a b)) Γ QD↔(dep a<=100\/dep b<=100)/\QD (.bl (if neg then !deq a b else deq a b)) Γ:=by simp only [eqF,bZ']
@[simp ↓] theorem we' {xs ys:List D}:wp (lft (catF (.lst xs) (.lst ys))) Γ QL↔xs.length+ys.length<=lim/\QL (xs++ys) Γ:=by simp only [catF,bZ']
@[simp ↓] theorem vz' {xs ys:List D}:wp (lft (addF (.tup xs) (.tup ys))) Γ QD↔xs.length+ys.length<=lim/\QD (.tup (xs++ys)) Γ:=by simp only [addF,bZ']
@[simp] theorem uR' {Γ:Gm}{k:Nat}{ds:List D} (h:Γ[k]?=some (some (.own ds))):isMut Γ k=true:=by unfold isMut;rw [h];rfl
@[simp] theorem vA' {a:Int}:dep (.int a)=0:=by simp [dep]
@[simp] theorem wf' {a:Bool}:dep (.bl a)=0:=by simp [dep]
@[simp] theorem vB' {a:Str}:dep (.str a)=0:=by simp [dep]
@[simp] theorem vC':dep (.lst [])=1:=by simp [dep,depA]
@[simp] theorem wg' {a b:Bool}:deq (.bl a) (.bl b)=(a == b):=by simp [deq]
@[simp] theorem vD' {a b:Str}:deq (.str a) (.str b)=(a == b):=by simp [deq]
@[simp] theorem bd' {a b:Int}:deq (.int a) (.int b)=(a == b):=by simp [deq]
@[simp] theorem nx' {ds:List D}:deq (.lst ds) (.lst [])=ds.isEmpty:=by cases ds<;>simp [deq,deqA]
@[simp] theorem u4' {a b:Bool}:deq (.str (if a then "True" else "False")) (.str (if b then "True" else "False"))=(a == b):=by cases a<;>cases b<;>decide
@[simp] theorem pN':lim=1000000:=rfl
theorem kY' {n d k:Nat}:HT.sIx n d (some (k:Int))=min k n:=by
 show (if (k:Int) < 0 then ((k:Int)+(n:Int)).toNat else min (k:Int).toNat n)=min k n
 rw [if_neg (by omega),Int.toNat_natCast]
theorem lF' {ds:List D}{n:Nat}:cutD ds none (some (n:Int))=ds.take n:=by
 unfold cutD
 rw [kY',HT.uY']
 simp
theorem lG' {ds:List D}{n:Nat}:cutD ds (some (n:Int)) none=ds.drop n:=by
 unfold cutD
 rw [kY',HT.uY',List.take_of_length_le (by simp)]
 by_cases h:n<=ds.length
 ·rw [Nat.min_eq_left h]
 ·rw [Nat.min_eq_right (by omega),List.drop_of_length_le (Nat.le_refl _),List.drop_of_length_le (by omega)]
theorem ny' {ds:List D}{n:Nat} (h:n < ds.length):slF (.tup ds) none (some (n:Int))=some (.tup (ds.take n)):=by
 unfold slF
 dsimp only
 rw [kY',HT.uY',if_neg (by omega),lF']
theorem nz' {ds:List D}{n:Nat} (h:0 < ds.length) (h1:0 < n):slF (.tup ds) (some (n:Int)) none=some (.tup (ds.drop n)):=by
 unfold slF
 dsimp only
 rw [kY',HT.uY',if_neg (by omega),lG']
@[simp] theorem wh' {d:D}{ds:List D}{P:List D->Prop}:(∃ es,appF d ds=some es/\P es)↔ds.length < 1000000/\P (ds++[d]):=by
 unfold appF
 rw [pN']
 by_cases h:ds.length < 1000000<;>simp [h]
@[simp] theorem wi' {xs ds:List D}{P:List D->Prop}:(∃ es,extF (.lst xs) ds=some es/\P es)↔ds.length+xs.length<=1000000/\P (ds++xs):=by
 unfold extF
 rw [pN']
 by_cases h:ds.length+xs.length<=1000000<;>simp [h]
theorem ae' {a b:M Fl}{QS:Fl->Gm->Prop} (h:∀ K:Fl->Gm->Prop,(∀ Γ1,wp b Γ1 QS->K .nx Γ1)->(∀ r Γ1,QS (.rt r) Γ1->K (.rt r) Γ1)->wp a Γ K):wp (seqS a b) Γ QS:=by
 rw [nu']
 exact h _ (fun _ h=>h) (fun _ _ h=>h)
theorem e8' {a b:M Fl}{QS:Fl->Gm->Prop} (P:Gm->Prop) (h:∀ K:Fl->Gm->Prop,(∀ Γ1,P Γ1->K .nx Γ1)->(∀ r Γ1,QS (.rt r) Γ1->K (.rt r) Γ1)->wp a Γ K) (h2:∀ Γ1,P Γ1->wp b Γ1 QS):wp (seqS a b) Γ QS:=by
 rw [nu']
 exact h _ (fun _ p=>h2 _ p) (fun _ _ h=>h)
theorem aT' {tgt:D->M Unit}{body:M Fl}{ds:List D}{QS:Fl->Gm->Prop} (J:Nat->Gm->Prop) (h0:J 0 Γ)
  (hs:∀ (i:Nat) (d:D) (Γ:Gm),ds[i]?=some d->J i Γ->∀ K:Fl->Gm->Prop,(∀ Γ2,J (i+1) Γ2->K .nx Γ2)->(∀ Γ2,J (i+1) Γ2->K .ct Γ2)->(∀ Γ2,QS .nx Γ2->K .bk Γ2)->(∀ r Γ2,QS (.rt r) Γ2->K (.rt r) Γ2)->wp (tgt d) Γ fun _ Γ1=>wp body Γ1 K) (hd:∀ Γ,J ds.length Γ->QS .nx Γ):wp (forM tgt body ds) Γ QS :=
 nv' J h0 (fun i d Γ h j=>hs i d Γ h j _ (fun _ h=>h) (fun _ h=>h) (fun _ h=>h) (fun _ _ h=>h)) hd
theorem dN' {n ar:Nat}{body:M Fl}{rs:List R}{QR:R->List R->Prop} (hl:rs.length=ar) (h:∀ K:Fl->Gm->Prop,(∀ r Γ',(∃ l,fin rs Γ'=some l/\QR r l)->K (.rt r) Γ')->(∀ Γ',(∃ l,fin rs Γ'=some l/\QR (.val .non) l)->K .nx Γ')->wp body (rs.map some++List.replicate (n - rs.length) none) K):wpF (fnD n ar body) rs QR :=
 nw' hl (h _ (fun r _ h=>⟨r,rfl,h⟩) (fun _ h=>⟨_,rfl,h⟩))
theorem e9' {n ar:Nat}{body:M Fl}{c ds:List D}{QR:R->List D->Prop} (hl:ds.length+1=ar) (h:∀ K:Fl->Gm->Prop,(∀ r c' Γ',(∃ t,fin (ds.map .val) Γ'=some t)->QR r c'->K (.rt r) (some (.bor c')::Γ'))->(∀ c' Γ',(∃ t,fin (ds.map .val) Γ'=some t)->QR (.val .non) c'->K .nx (some (.bor c')::Γ'))->wp body ((.bor c::ds.map .val).map some++List.replicate (n - (ds.length+1)) none) K):wpB (fnD n ar body) c ds QR:=by
 refine tF' (dN' (by simpa using hl) fun K k1 k2=>?_)
 refine (by simpa using h K (fun r c' Γ' ⟨t,e⟩ q=>k1 r _ ⟨_,by simp [fin,e],c',t,rfl,q⟩) (fun c' Γ' ⟨t,e⟩ q=>k2 _ ⟨_,by simp [fin,e],c',t,rfl,q⟩))
theorem lH' {α:Type}{m:Nat}{tgt:D->M Unit}{ts:M Bool}{el:M D}{it:M (List D)} (xs:List α) (f:α->D) (p:α->Bool) (v:α->D)
  (h:wp it Γ fun ds Γ1=>ds=xs.map f/\xs.length<=1000000/\(∀ x∈xs,∀ cs:Gm,cs.length=m->wp (tgt (f x)) (cs++Γ1) fun _ Γ2=>wp ts Γ2 fun b Γ3=>b=p x/\(if b=true then wp el Γ3 fun y Γ4=>y=v x/\∃ cs',cs'.length=m/\Γ4=cs'++Γ1 else ∃ cs',cs'.length=m/\Γ3=cs'++Γ1)) ∧
   QL ((xs.filter p).map v) Γ1):wp (compO m it tgt ts el) Γ QL:=by
 unfold compO
 rw [aP']
 refine h.mono fun ds Γ1 ⟨hds,hl,hp,hq⟩=>?_
 subst hds
 rw [if_pos (by simpa using hl)]
 have key:∀ (es:List α) (cs:Gm),(∀ d∈es,d∈xs)->cs.length=m->∃ cs',cs'.length=m/\compM tgt ts el (es.map f) (cs++Γ1)=some ((es.filter p).map v,cs'++Γ1):=by
  intro es
  induction es with
  | nil=>intro cs _ hc;exact ⟨cs,hc,rfl⟩
  | cons d es ih =>
   intro cs hm hc
   obtain ⟨u,Γ2,e1,b,Γ3,e2,hb,h3⟩:=hp d (hm d List.mem_cons_self) cs hc
   have hm':∀ d∈es,d∈xs:=fun d hd=>hm d (List.mem_cons_of_mem _ hd)
   cases b with
   | false =>
    rw [if_neg Bool.false_ne_true] at h3
    obtain ⟨cs',hc',rfl⟩:=h3
    obtain ⟨cs2,hc2,e3⟩:=ih cs' hm' hc'
    refine ⟨cs2,hc2,?_⟩
    rw [List.map_cons,compM]
    unfold bnd
    simp only [e1,e2,Bool.false_eq_true,if_false]
    rw [e3,List.filter_cons,← hb]
    simp
   | true =>
    rw [if_pos rfl] at h3
    obtain ⟨x,Γ4,e4,rfl,cs',hc',rfl⟩:=h3
    obtain ⟨cs2,hc2,e3⟩:=ih cs' hm' hc'
    refine ⟨cs2,hc2,?_⟩
    rw [List.map_cons,compM]
    unfold bnd
    simp only [e1,e2,if_true,e4]
    rw [e3,List.filter_cons,← hb]
    rfl
 obtain ⟨cs',hc',e⟩:=key xs (List.replicate m none) (fun _ h=>h) (by simp)
 refine ⟨_,_,?_,hq⟩
 unfold inC
 rw [e]
 simp [hc',List.drop_append]
theorem bg' {α:Type}{tgt:D->M Unit}{ts:M Bool}{el:M D}{it:M (List D)} (xs:List α) (f:α->D) (p:α->Bool) (v:α->D)
  (h:wp it Γ fun ds Γ1=>ds=xs.map f/\xs.length<=1000000/\(∀ x∈xs,∀ a,wp (tgt (f x)) (a::Γ1) fun _ Γ2=>wp ts Γ2 fun b Γ3=>b=p x/\(if b=true then wp el Γ3 fun y Γ4=>y=v x/\∃ a',Γ4=a'::Γ1 else ∃ a',Γ3=a'::Γ1)) ∧
   QL ((xs.filter p).map v) Γ1):wp (compO 1 it tgt ts el) Γ QL:=by
 refine lH' xs f p v (h.mono fun ds Γ1 ⟨h1,h2,h3,h4⟩=>⟨h1,h2,fun x hx cs hc=>?_,h4⟩)
 obtain ⟨a,rfl⟩:=List.length_eq_one_iff.mp hc
 refine (h3 x hx a).mono fun _ Γ2 h=>h.mono fun b Γ3 ⟨h5,h6⟩=>⟨h5,?_⟩
 cases b with
 | true=>simp only [if_true] at h6 ⊢;exact h6.mono fun y Γ4 ⟨h7,a',h8⟩=>⟨h7,[a'],rfl,h8⟩
 | false=>simp only [Bool.false_eq_true,if_false] at h6 ⊢;obtain ⟨a',h8⟩:=h6;exact ⟨[a'],rfl,h8⟩
theorem dK' {α:Type}{tgt:D->M Unit}{ts:M Bool}{el:M D}{it:M (List D)} (xs:List α) (f:α->D) (p:α->Bool) (v:α->D)
  (h:wp it Γ fun ds Γ1=>ds=xs.map f/\xs.length<=1000000/\(∀ x∈xs,∀ a b,wp (tgt (f x)) (a::b::Γ1) fun _ Γ2=>wp ts Γ2 fun b Γ3=>b=p x/\(if b=true then wp el Γ3 fun y Γ4=>y=v x/\∃ a' b',Γ4=a'::b'::Γ1 else ∃ a' b',Γ3=a'::b'::Γ1)) ∧
   QL ((xs.filter p).map v) Γ1):wp (compO 2 it tgt ts el) Γ QL:=by
 refine lH' xs f p v (h.mono fun ds Γ1 ⟨h1,h2,h3,h4⟩=>⟨h1,h2,fun x hx cs hc=>?_,h4⟩)
 obtain ⟨a,b,rfl⟩:∃ a b,cs=[a,b]:=by
  match cs,hc with
  | [a,b],_=>exact ⟨a,b,rfl⟩
 refine (h3 x hx a b).mono fun _ Γ2 h=>h.mono fun b Γ3 ⟨h5,h6⟩=>⟨h5,?_⟩
 cases b with
 | true=>simp only [if_true] at h6 ⊢;exact h6.mono fun y Γ4 ⟨h7,a',b',h8⟩=>⟨h7,[a',b'],rfl,h8⟩
 | false=>simp only [Bool.false_eq_true,if_false] at h6 ⊢;obtain ⟨a',b',h8⟩:=h6;exact ⟨[a',b'],rfl,h8⟩
theorem bD' {n ar:Nat}{body:M Fl}{ds:List D}{d:D} (hl:ds.length=ar) (h:∀ K:Fl->Gm->Prop,(∀ Γ',(∃ l,fin (ds.map .val) Γ'=some l)->K (.rt (.val d)) Γ')->(∀ Γ',d=.non->(∃ l,fin (ds.map .val) Γ'=some l)->K .nx Γ')->wp body ((ds.map .val).map some++List.replicate (n - ds.length) none) K):cvF (fnD n ar body) ds=some d:=by
 refine tD' (dN' (by simpa using hl) fun K k1 k2=>?_)
 have:=h K (fun Γ' ⟨l,e⟩=>k1 _ _ ⟨l,e,rfl⟩) (fun Γ' hd ⟨l,e⟩=>k2 _ ⟨l,e,by rw [hd]⟩)
 simpa using this
theorem lI' {α:Type}{f:α->Bool}{xs:List α}:blsD (xs.map fun x=>.bl (f x))=some (xs.map f):=by
 induction xs with
 | nil=>rfl
 | cons x xs ih=>simp only [List.map_cons,blsD,ih]
theorem qX' {α:Type}{f:α->Bool}{xs:List α}:allF [.lst (xs.map fun x=>.bl (f x))]=some (.bl (xs.all f)):=by
 unfold allF
 simp only [lI']
 simp [Function.comp_def]
theorem qY' {α:Type}{f:α->Bool}{xs:List α}:anyF [.lst (xs.map fun x=>.bl (f x))]=some (.bl (xs.any f)):=by
 unfold anyF
 simp only [lI']
 simp [Function.comp_def]
theorem gj' {α β:Type}{f:α->D}{g:β->D}{xs:List α}{ys:List β}:pairsD (xs.map f) (ys.map g)=(xs.zip ys).map fun q=>.tup [f q.1,g q.2]:=by
 unfold pairsD
 induction xs generalizing ys with
 | nil=>rfl
 | cons x xs ih =>
  cases ys with
  | nil=>rfl
  | cons y ys=>simp only [List.map_cons,List.zip_cons_cons,ih]
end
end DL
namespace DL
open PySem L2
section
variable {α:Type}{Γ:Gm}{Q:α->Gm->Prop}{QD:D->Gm->Prop}{QL:List D->Gm->Prop}{i j:Int}
@[simp ↓] theorem u5' {i:Nat}{g:List R->Option (R×List R)}{t:M (List D)}:wp (lendV i g t) Γ QD↔isMut Γ i=true/\wp t Γ fun ds Γ1=>wp (look i) Γ1 fun l Γ2=>wp (lft (lendF g (l::ds))) Γ2 QD:=by simp only [lendV,c8',aP']
@[simp ↓] theorem wj' {neg:Bool}{i:Nat}{g:M D}:wp (inN neg i g) Γ QD↔wp g Γ fun d Γ1=>wp (look i) Γ1 fun l Γ2=>wp (lft (inF neg d l)) Γ2 QD:=by simp only [inN,aP']
@[simp] theorem wD' {ds:List D}:rvF (.lst ds) (.int (-1))=some ds.reverse:=by simp [rvF]
theorem sk' {g:List R->Option (R×List R)}{ds:List D}{d:D} (h:cvF g ds=some d) (s:scal d=true):lendF g ds=some d:=by
 unfold lendF
 rw [h]
 simp [s]
theorem tH' {xs:List D} (h:SetOk xs) (k:xs.all fstI=true\/xs.all fstT=true):setF [.lst xs]=some (sortD (dd xs)):=by
 unfold setF
 exact if_pos ⟨h,k⟩
theorem iu' {xs:List D} (h:SortOk xs):sortF [.lst xs]=some (sortD xs):=by
 unfold sortF
 exact if_pos h
theorem tI' (ds:List D):∀ d∈ds,(dd ds).any (fun e=>deq e d)=true:=by
 have key:∀ (ds acc:List D),(∀ d,acc.any (fun e=>deq e d)=true->(ds.foldl dstep acc).any (fun e=>deq e d)=true)/\∀ d∈ds,(ds.foldl dstep acc).any (fun e=>deq e d)=true:=by
  intro ds
  induction ds with
  | nil=>exact fun acc=>⟨fun d h=>h,fun d h=>by cases h⟩
  | cons c ds ih =>
   intro acc
   obtain ⟨h1,h2⟩:=ih (dstep acc c)
   have st:∀ d,acc.any (fun e=>deq e d)=true->(dstep acc c).any (fun e=>deq e d)=true:=fun d h=>by
    unfold dstep
    split
    ·exact h
    ·rw [List.any_append,h];rfl
   refine ⟨fun d h=>h1 d (st d h),fun d h=>?_⟩
   rcases List.mem_cons.mp h with rfl | h
   ·refine h1 d ?_
    unfold dstep
    split
    ·assumption
    ·rw [List.any_append]
     simp [dI']
   ·exact h2 d h
 exact (key ds []).2
theorem pO' (ds:List D):(dd ds).length<=ds.length:=by
 have key:∀ (ds acc:List D),(ds.foldl dstep acc).length<=acc.length+ds.length:=by
  intro ds
  induction ds with
  | nil=>exact fun acc=>Nat.le_refl _
  | cons c ds ih =>
   intro acc
   have:=ih (dstep acc c)
   have:(dstep acc c).length<=acc.length+1:=by
    unfold dstep
    split
    ·omega
    ·simp
   rw [List.foldl_cons,List.length_cons]
   omega
 have:=key ds []
 simpa [dd] using this
end
end DL
namespace DL
theorem fA' {α:Type}:∀ (l m:List α),l.Nodup->(∀ x∈l,x∈m)->l.length<=m.length
 | [],m,_,_=>Nat.zero_le _
 | x::l,m,nd,h=>by
  obtain ⟨a,b,rfl⟩:=List.append_of_mem (h x List.mem_cons_self)
  rw [List.nodup_cons] at nd
  have:=fA' l (a++b) nd.2 (fun y hy=>by
   have:=h y (List.mem_cons_of_mem _ hy)
   rcases List.mem_append.mp this with z | z
   ·exact (List.mem_append_left _ z)
   ·rcases List.mem_cons.mp z with z | z
    ·subst z;exact absurd hy nd.1
    ·exact (List.mem_append_right _ z))
  simp at this ⊢
  omega
end DL
namespace DL
theorem gk' {n ar:Nat}{body:M Fl}{ds:List D}{os:List D} (hl:ds.length=ar) (h:∀ K:Fl->Gm->Prop,(∀ Γ',(∃ l,fin (ds.map .val) Γ'=some l)->K (.rt (.own os)) Γ')->wp body ((ds.map .val).map some++List.replicate (n - ds.length) none) K):coF (fnD n ar body) ds=some os:=by
 have w:wpF (fnD n ar body) (ds.map .val) fun r _=>r=.own os:=dN' (by simpa using hl) fun K k1 _=>by
  have:=h K (fun Γ' ⟨l,e⟩=>k1 _ _ ⟨l,e,rfl⟩)
  simpa using this
 obtain ⟨r,rs',e,rfl⟩:=w
 unfold coF
 rw [e]
end DL
namespace DL
section
variable {Γ:Gm}{QS:Fl->Gm->Prop}{QL:List D->Gm->Prop}
@[simp ↓] theorem vE' {j:Nat}:wp (froS j) Γ QL↔match Γ[j]? with
  | some (some (.fro ds))=>QL ds Γ
  | _=>False:=by
 unfold wp froS
 rcases e:Γ[j]? with _ | _ | r
 ·simp
 ·simp
 ·cases r<;>simp<;>exact ⟨fun ⟨_,_,⟨h1,h2⟩,q⟩=>by subst h1;subst h2;exact q,fun q=>⟨_,_,⟨rfl,rfl⟩,q⟩⟩
@[simp ↓] theorem vF' {i:Nat}{g:M (List D)}:wp (setY i g) Γ QS↔wp g Γ fun d Γ1=>i < Γ1.length/\QS .nx (Γ1.set i (some (.fro d))):=by simp [setY]
@[simp ↓] theorem wk' {i j:Nat}:wp (cpS i j) Γ QS↔wp (froS j) Γ fun d Γ1=>i < Γ1.length/\QS .nx (Γ1.set i (some (.fro d))):=by simp only [cpS,aP',sj',du']
@[simp ↓] theorem vG' {j:Nat}:wp (retY j) Γ QS↔wp (froS j) Γ fun d Γ1=>QS (.rt (.fro d)) Γ1:=by simp only [retY,aP',du']
theorem lJ' {c:M Bool}{b:M Fl} (J:Nat->Gm->Prop)
  (hs:∀ (m:Nat) (Γ:Gm),J m Γ->wp c Γ fun k Γ1=>if k=true then ∃ m',m=m'+1/\∀ K:Fl->Gm->Prop,(∀ Γ2,J m' Γ2->K .nx Γ2)->(∀ Γ2,J m' Γ2->K .ct Γ2)->(∀ Γ2,QS .nx Γ2->K .bk Γ2)->(∀ r Γ2,QS (.rt r) Γ2->K (.rt r) Γ2)->wp b Γ1 K else QS .nx Γ1) :
  ∀ (n m:Nat) (Γ:Gm),m < n->J m Γ->wp (whlS n c b) Γ QS:=by
 intro n
 induction n with
 | zero=>intro m Γ h;omega
 | succ n ih =>
  intro m Γ h j
  rw [whlS,aP']
  refine (hs m Γ j).mono fun k Γ1 q=>?_
  cases k with
  | false=>rw [if_neg Bool.false_ne_true] at q ⊢;rw [du'];exact q
  | true =>
   rw [if_pos rfl] at q ⊢
   obtain ⟨m',rfl,q⟩:=q
   rw [aP']
   refine q _ (fun Γ2 j2=>?_) (fun Γ2 j2=>?_) (fun Γ2 z=>?_) fun r Γ2 z=>?_
   ·exact ih m' Γ2 (by omega) j2
   ·exact ih m' Γ2 (by omega) j2
   ·exact (du').mpr z
   ·exact (du').mpr z
theorem uk' {n ar:Nat}{body:M Fl}{ds:List D}{os:List D} (hl:ds.length=ar) (no:noLA os=true) (h:∀ K:Fl->Gm->Prop,(∀ Γ',(∃ l,fin (ds.map .val) Γ'=some l)->K (.rt (.fro os)) Γ')->wp body ((ds.map .val).map some++List.replicate (n - ds.length) none) K):coF (fnD n ar body) ds=some os:=by
 have w:wpF (fnD n ar body) (ds.map .val) fun r _=>r=.fro os:=dN' (by simpa using hl) fun K k1 _=>by
  have:=h K (fun Γ' ⟨l,e⟩=>k1 _ _ ⟨l,e,rfl⟩)
  simpa using this
 obtain ⟨r,rs',e,rfl⟩:=w
 unfold coF
 rw [e]
 exact if_pos no
end
end DL
namespace Own
open PySem PySem.Spec PyProof.Rows L2 DL
noncomputable def eI':M Fl :=
 (forS (itS (nm 0)) (tgN 1)
  (ifS (tst (op2 (eqF true) (fn1 lenF (consA (nm 1) nilA)) (fn1 lenF (consA (op2 ixF (nm 0) (ret (.int 0))) nilA))))
  (fun _=>none) (ret .nx)))
noncomputable def aE':List R->Option (R×List R):=fnD 2 1 eI'
noncomputable def iv':M Fl :=
 (seqS (dropS (fn1 (cvF aE') (consA (frz (lstA (consA (nm 0) (consA (nm 1) nilA)))) nilA)))
  (retS (fn1 allF (consA (frz (compO 2 (fn1 zipI (consA (nm 0) (consA (nm 1) nilA))) (tgTup 2 (tgCons (tgN 0) (tgCons (tgN 1) tgNil))) (ret true) (andV (op2 leI (op2 ixF (nm 0) (ret (.int 0))) (op2 ixF (nm 1) (ret (.int 0)))) (op2 leI (op2 ixF (nm 1) (ret (.int 1))) (op2 ixF (nm 0) (ret (.int 1))))))) nilA))))
noncomputable def dL':List R->Option (R×List R):=fnD 2 2 iv'
noncomputable def fJ':M Fl :=
 (seqS (dropS (fn1 (cvF aE') (consA (frz (lstA (consA (nm 0) (consA (nm 1) nilA)))) nilA)))
  (seqS (setO 2 (lstA nilA))
  (seqS (forS (fn1 zipI (consA (nm 0) (consA (nm 1) nilA))) (tgTup 2 (tgCons (tgN 3) (tgCons (tgN 4) tgNil)))
  (seqS (setV 5 (fn1 maxF (consA (op2 ixF (nm 3) (ret (.int 0))) (consA (op2 ixF (nm 4) (ret (.int 0))) nilA))))
  (seqS (setV 6 (fn1 minF (consA (op2 ixF (nm 3) (ret (.int 1))) (consA (op2 ixF (nm 4) (ret (.int 1))) nilA))))
  (seqS (ifS (tst (op2 gtI (nm 5) (nm 6)))
  (retS (ret .non)) (ret .nx))
  (appS 2 (tupA (consA (nm 5) (consA (nm 6) nilA))))))))
  (retS (fn1 tupF (consA (nm 2) nilA))))))
noncomputable def dv':List R->Option (R×List R):=fnD 7 2 fJ'
noncomputable def cU':M Fl :=
 (retS (fn1 anyF (consA (frz (compO 1 (itS (nm 0)) (tgN 0) (ret true) (andV (op2 (eqF true) (nm 0) (nm 2)) (fn1 (cvF dL') (consA (nm 0) (consA (nm 2) nilA)))))) nilA)))
noncomputable def b1':List R->Option (R×List R):=fnD 2 2 cU'
noncomputable def gZ':M Fl :=
 (seqS (dropS (fn1 (cvF aE') (consA (nm 0) nilA)))
  (seqS (setV 1 (frz (fn1 setF (consA (nm 0) nilA))))
  (retO (compO 1 (itS (nm 1)) (tgN 0) (notT (tst (fn1 (cvF b1') (consA (nm 2) (consA (nm 0) nilA))))) (nm 0)))))
noncomputable def cV':List R->Option (R×List R):=fnD 2 1 gZ'
noncomputable def eh':M Fl :=
 (seqS (setO 2 (lstA nilA))
  (seqS (forS (fn1 enumI (consA (nm 1) nilA)) (tgTup 2 (tgCons (tgN 3) (tgCons (tgN 4) tgNil)))
  (forS (itS (nm 0)) (tgN 5)
  (seqS (ifS (tst (op2 ltI (op2 ixF (nm 4) (ret (.int 0))) (op2 ixF (op2 ixF (nm 5) (nm 3)) (ret (.int 0)))))
  (appS 2 (tupA (consA (nm 3) (consA (op2 subI (op2 ixF (op2 ixF (nm 5) (nm 3)) (ret (.int 0))) (ret (.int 1))) nilA)))) (ret .nx))
  (ifS (tst (op2 ltI (op2 ixF (op2 ixF (nm 5) (nm 3)) (ret (.int 1))) (op2 ixF (nm 4) (ret (.int 1)))))
  (appS 2 (tupA (consA (nm 3) (consA (op2 ixF (op2 ixF (nm 5) (nm 3)) (ret (.int 1))) nilA)))) (ret .nx)))))
  (retS (fn1 minlF (consA (nm 2) nilA)))))
noncomputable def b9':List R->Option (R×List R):=fnD 6 2 eh'
noncomputable def fK':M Fl :=
 (seqS (setV 3 (sl3 slF (nm 0) (ret none) (prt (nm 1))))
  (seqS (setV 4 (sl3 slF (nm 0) (prt (op2 addF (nm 1) (ret (.int 1)))) (ret none)))
  (seqS (setV 5 (op2 ixF (op2 ixF (nm 0) (nm 1)) (ret (.int 0))))
  (seqS (setV 6 (op2 ixF (op2 ixF (nm 0) (nm 1)) (ret (.int 1))))
  (retS (tupA (consA (op2 addF (op2 addF (nm 3) (tupA (consA (tupA (consA (nm 5) (consA (nm 2) nilA))) nilA))) (nm 4)) (consA (op2 addF (op2 addF (nm 3) (tupA (consA (tupA (consA (op2 addF (nm 2) (ret (.int 1))) (consA (nm 6) nilA))) nilA))) (nm 4)) nilA))))))))
noncomputable def dw':List R->Option (R×List R):=fnD 7 3 fK'
noncomputable def co' (g:List R->Option (R×List R)):M Fl :=
 (seqS (setV 3 (frz (compO 1 (itS (nm 1)) (tgN 0) (tst (op2 (isNF true) (fn1 (cvF dv') (consA (op2 ixF (nm 1) (nm 0)) (consA (nm 3) nilA))) (ret .non))) (nm 0))))
  (seqS (ifS (tst (op2 (eqF false) (fn1 lenF (consA (nm 3) nilA)) (ret (.int 0))))
  (retS (tupA (consA (ret (.str "out")) (consA (fn1 tupF (consA (frz (compO 1 (itS (nm 2)) (tgN 0) (ret true) (op2 ixF (nm 0) (ret (.int 0))))) nilA)) nilA)))) (ret .nx))
  (seqS (forS (itS (nm 3)) (tgN 4)
  (ifS (tst (fn1 (cvF dL') (consA (op2 ixF (nm 0) (nm 4)) (consA (nm 2) nilA))))
  (retS (tupA (consA (ret (.str "in")) (consA (tupA (consA (ret (.str "by")) (consA (nm 4) nilA))) nilA)))) (ret .nx)))
  (seqS (setV 5 (fn1 (cvF b9') (consA (frz (compO 1 (itS (nm 3)) (tgN 0) (ret true) (op2 ixF (nm 1) (nm 0)))) (consA (nm 2) nilA))))
  (seqS (setV 6 (fn1 (cvF dw') (consA (nm 2) (consA (op2 ixF (nm 5) (ret (.int 0))) (consA (op2 ixF (nm 5) (ret (.int 1))) nilA)))))
  (seqS (setV 7 (fn1 (cvF g) (consA (nm 0) (consA (nm 3) (consA (op2 ixF (nm 6) (ret (.int 0))) nilA)))))
  (seqS (ifS (tst (op2 (eqF false) (op2 ixF (nm 7) (ret (.int 0))) (ret (.str "out"))))
  (retS (nm 7)) (ret .nx))
  (seqS (setV 8 (fn1 (cvF g) (consA (nm 0) (consA (nm 3) (consA (op2 ixF (nm 6) (ret (.int 1))) nilA)))))
  (seqS (ifS (tst (op2 (eqF false) (op2 ixF (nm 8) (ret (.int 0))) (ret (.str "out"))))
  (retS (nm 8)) (ret .nx))
  (retS (tupA (consA (ret (.str "in")) (consA (tupA (consA (ret (.str "cut")) (consA (op2 ixF (nm 5) (ret (.int 0))) (consA (op2 ixF (nm 5) (ret (.int 1))) (consA (op2 ixF (nm 7) (ret (.int 1))) (consA (op2 ixF (nm 8) (ret (.int 1))) nilA)))))) nilA)))))))))))))
noncomputable def ba':Nat->List R->Option (R×List R)
 | 0=>fun _=>none
 | k+1=>fnD 9 3 (co' (ba' k))
noncomputable def g0':M Fl :=
 (seqS (dropS (fn1 (cvF aE') (consA (frz (op2 catF (frz (lstA (consA (nm 1) nilA))) (nm 0))) nilA)))
  (retS (fn1 (cvF (ba' 40)) (consA (nm 0) (consA (frz (fn1 rngI1 (consA (fn1 lenF (consA (nm 0) nilA)) nilA))) (consA (nm 1) nilA))))))
noncomputable def eD':List R->Option (R×List R):=fnD 2 2 g0'
noncomputable def eR':M Fl :=
 (seqS (setY 1 (fn1 (coF cV') (consA (nm 0) nilA)))
  (seqS (cpS 2 1)
  (seqS (forS (itS (nm 1)) (tgN 3)
  (seqS (setY 4 (compO 1 (itS (nm 2)) (tgN 0) (tst (op2 (eqF true) (nm 0) (nm 4))) (nm 0)))
  (ifS (tst (op2 (eqF false) (op2 ixF (fn1 (cvF eD') (consA (nm 4) (consA (nm 3) nilA))) (ret (.int 0))) (ret (.str "in"))))
  (cpS 2 4) (ret .nx))))
  (retY 2))))
noncomputable def eS':List R->Option (R×List R):=fnD 5 1 eR'
noncomputable def dY':M Fl :=
 (ifS (notT (tst (chn leI ltI (ret (.int 0)) (nm 1) (op2 ixF (nm 0) (ret (.int 0))))))
  (fun _=>none) (ret .nx))
noncomputable def bh':List R->Option (R×List R):=fnD 2 2 dY'
noncomputable def dZ':M Fl :=
 (seqS (dropS (fn1 (cvF bh') (consA (nm 0) (consA (nm 1) nilA))))
  (retO (fn1 sortF (consA (frz (compO 1 (itS (op2 ixF (nm 0) (ret (.int 1)))) (tgN 0) (tst (op2 (inF false) (nm 2) (nm 0))) (ifV (tst (op2 (eqF false) (op2 ixF (nm 0) (ret (.int 0))) (nm 2))) (op2 ixF (nm 0) (ret (.int 1))) (op2 ixF (nm 0) (ret (.int 0)))))) nilA))))
noncomputable def bi':List R->Option (R×List R):=fnD 2 2 dZ'
noncomputable def ei':M Fl :=
 (seqS (dropS (fn1 (cvF bh') (consA (nm 0) (consA (nm 1) nilA))))
  (seqS (dropS (fn1 (cvF bh') (consA (nm 0) (consA (nm 2) nilA))))
  (ifS (tst (op2 (inF true) (nm 2) (frz (fn1 (coF bi') (consA (nm 0) (consA (nm 1) nilA))))))
  (fun _=>none) (ret .nx))))
noncomputable def c9':List R->Option (R×List R):=fnD 3 3 ei'
noncomputable def gl':M Fl :=
 (seqS (ifS (tst (op2 (eqF false) (nm 0) (ret (.str "spare"))))
  (retO (fn1 (coF eS') (consA (nm 1) nilA))) (ret .nx))
  (retO (fn1 (coF cV') (consA (nm 1) nilA))))
noncomputable def cp':List R->Option (R×List R):=fnD 2 2 gl'
noncomputable def fL':M Fl :=
 (retO (compO 1 (itS (nm 0)) (tgN 0) (ret true) (op2 ixF (nm 0) (ret (.int 1)))))
noncomputable def bF':List R->Option (R×List R):=fnD 1 1 fL'
noncomputable def eT' (g:List R->Option (R×List R)):M Fl :=
 (seqS (setO 5 (fn1 (coF bF') (consA (frz (compO 1 (itS (nm 1)) (tgN 0) (tst (op2 (eqF false) (op2 ixF (nm 0) (ret (.int 0))) (nm 5))) (nm 0))) nilA)))
  (seqS (forS (itS (frz (fn1 (coF bi') (consA (nm 0) (consA (nm 4) nilA))))) (tgN 6)
  (ifS (tst (op2 (eqF true) (nm 6) (nm 3)))
  (extS 5 (frz (fn1 (coF g) (consA (nm 0) (consA (nm 1) (consA (nm 2) (consA (nm 4) (consA (nm 6) nilA)))))))) (ret .nx)))
  (retO (fn1 (coF cp') (consA (nm 2) (consA (nm 5) nilA))))))
noncomputable def da':Nat->List R->Option (R×List R)
 | 0=>fun _=>none
 | k+1=>fnD 7 5 (eT' (da' k))
noncomputable def gm':M Fl :=
 (seqS (dropS (fn1 (cvF aE') (consA (frz (fn1 (coF bF') (consA (nm 1) nilA))) nilA)))
  (seqS (dropS (fn1 (cvF c9') (consA (nm 0) (consA (nm 3) (consA (nm 4) nilA)))))
  (retO (fn1 (coF (da' 20)) (consA (nm 0) (consA (nm 1) (consA (nm 2) (consA (nm 3) (consA (nm 4) nilA)))))))))
noncomputable def eU':List R->Option (R×List R):=fnD 5 5 gm'
noncomputable def fM':M Fl :=
 (seqS (ifS (tst (op2 geI (nm 0) (op2 powI (ret (.int 10)) (ret (.int 18)))))
  (retS (nm 0)) (ret .nx))
  (seqS (setV 2 (op2 modI (op2 addF (op2 addF (op2 mulI (op2 modI (nm 0) (ret (.int 998244353))) (ret (.int 40692))) (op2 mulI (nm 1) (ret (.int 69621)))) (ret (.int 1009))) (ret (.int 2147483399))))
  (seqS (setV 3 (op2 modI (op2 addF (op2 addF (op2 mulI (nm 2) (nm 2)) (op2 mulI (nm 1) (ret (.int 48271)))) (op2 modI (nm 0) (ret (.int 131071)))) (ret (.int 2147483647))))
  (seqS (setV 4 (op2 modI (op2 addF (op2 addF (op2 mulI (nm 3) (nm 3)) (op2 mulI (nm 2) (ret (.int 17)))) (ret (.int 3))) (ret (.int 2147483629))))
  (retS (op2 addF (op2 mulI (op2 addF (op2 mulI (nm 2) (ret (.int 2147483647))) (nm 3)) (ret (.int 2147483629))) (nm 4)))))))
noncomputable def dx':List R->Option (R×List R):=fnD 5 2 fM'
noncomputable def g1':M Fl :=
 (seqS (setO 1 (fn1 lstF (consA (sl3 slF (nm 0) (ret none) (prt (ret (.int 12)))) nilA)))
  (seqS (forS (fn1 enumI (consA (sl3 slF (nm 0) (prt (ret (.int 12))) (prt (ret (.int 63)))) nilA)) (tgTup 2 (tgCons (tgN 2) (tgCons (tgN 3) tgNil)))
  (stS 1 (op2 modI (nm 2) (ret (.int 12))) (op2 addF (atN 1 (op2 modI (nm 2) (ret (.int 12)))) (nm 3))))
  (retO (lstA (consA (nm 1) (consA (ret (.int 0)) (consA (ret (.int 0)) nilA)))))))
noncomputable def eE':List R->Option (R×List R):=fnD 4 1 g1'
noncomputable def gn':M Fl :=
 (seqS (ifS (tst (op2 ltI (atN 0 (ret (.int 2))) (nm 1)))
  (seqS (setV 2 (atN 0 (ret (.int 1))))
  (seqS (setV 3 (op2 mulI (ret (.int 11)) (nm 2)))
  (seqS (ifS (tst (op2 ltI (nm 2) (fn1 lenF (consA (atN 0 (ret (.int 0))) nilA))))
  (setV 3 (op2 ixF (atN 0 (ret (.int 0))) (nm 2))) (ifS (tst (op2 (eqF true) (atN 0 (ret (.int 0))) (frz (lstA nilA))))
  (setV 3 (op2 modI (op2 ixF (atN 0 (ret (.int 0))) (op2 modI (op2 addF (op2 mulI (nm 2) (ret (.int 7))) (ret (.int 1))) (fn1 lenF (consA (atN 0 (ret (.int 0))) nilA)))) (op2 addF (op2 powI (ret (.int 10)) (ret (.int 17))) (op2 mulI (ret (.int 3)) (nm 2))))) (ret .nx)))
  (seqS (stS 0 (ret (.int 1)) (op2 addF (nm 2) (ret (.int 1))))
  (stS 0 (ret (.int 2)) (fn1 (cvF dx') (consA (nm 3) (consA (nm 2) nilA)))))))) (ret .nx))
  (seqS (setV 4 (op2 modI (atN 0 (ret (.int 2))) (nm 1)))
  (seqS (stS 0 (ret (.int 2)) (op2 divI (atN 0 (ret (.int 2))) (nm 1)))
  (retS (nm 4)))))
noncomputable def ap':List R->Option (R×List R):=fnD 5 2 gn'
noncomputable def cq' (g:List R->Option (R×List R)):M Fl :=
 (seqS (ifS (orT (tst (op2 (isNF false) (nm 1) (ret .non))) (tst (op2 (isNF false) (nm 0) (ret .non))))
  (retS (andV (op2 (isNF false) (nm 1) (ret .non)) (op2 (isNF false) (nm 0) (ret .non)))) (ret .nx))
  (seqS (ifS (orT (tst (un1 (isiF .bT) (nm 1))) (tst (un1 (isiF .bT) (nm 0))))
  (retS (andV (un1 (isiF .bT) (nm 1)) (andV (un1 (isiF .bT) (nm 0)) (op2 (eqF false) (nm 0) (nm 1))))) (ret .nx))
  (seqS (ifS (orT (tst (un1 (isiF .iT) (nm 1))) (tst (un1 (isiF .sT) (nm 1))))
  (retS (andV (op2 (eqF false) (un1 (isiF .iT) (nm 0)) (un1 (isiF .iT) (nm 1))) (op2 (eqF false) (nm 0) (nm 1)))) (ret .nx))
  (seqS (ifS (orT (tst (op2 (eqF true) (un1 (isiF .tT) (nm 1)) (un1 (isiF .tT) (nm 0)))) (tst (op2 (eqF true) (un1 (isiF .lT) (nm 1)) (un1 (isiF .lT) (nm 0)))))
  (retS (ret (.bl false))) (ret .nx))
  (seqS (ifS (tst (op2 (eqF true) (fn1 lenF (consA (nm 0) nilA)) (fn1 lenF (consA (nm 1) nilA))))
  (retS (ret (.bl false))) (ret .nx))
  (retS (op2 (inF true) (ret (.bl false)) (frz (compO 2 (fn1 zipI (consA (nm 0) (consA (nm 1) nilA))) (tgTup 2 (tgCons (tgN 0) (tgCons (tgN 1) tgNil))) (ret true) (fn1 (cvF g) (consA (nm 0) (consA (nm 1) nilA))))))))))))
noncomputable def a6':Nat->List R->Option (R×List R)
 | 0=>fun _=>none
 | k+1=>fnD 2 2 (cq' (a6' k))
noncomputable def go':M Fl :=
 (seqS (setO 4 (lstA nilA))
  (seqS (forS (fn1 rngI1 (consA (nm 1) nilA)) (tgN 5)
  (seqS (setV 6 (op2 addF (nm 2) (cbV 0 ap' (consA (nm 3) nilA))))
  (seqS (setV 7 (op2 addF (nm 2) (cbV 0 ap' (consA (nm 3) nilA))))
  (appS 4 (tupA (consA (fn1 minF (consA (nm 6) (consA (nm 7) nilA))) (consA (fn1 maxF (consA (nm 6) (consA (nm 7) nilA))) nilA)))))))
  (retS (fn1 tupF (consA (nm 4) nilA)))))
noncomputable def eV':List R->Option (R×List R):=fnD 8 4 go'
noncomputable def fi':M Fl :=
 (seqS (setV 2 (cbV 0 ap' (consA (fn1 lenF (consA (nm 1) nilA)) nilA)))
  (seqS (asgS (op2 ixF (nm 1) (nm 2)) (tgTup 2 (tgCons (tgN 3) (tgCons (tgN 4) tgNil))))
  (seqS (setV 5 (frz (lstA (consA (tupA (consA (fn1 maxF (consA (ret (.int 0)) (consA (op2 subI (nm 3) (ret (.int 1))) nilA))) (consA (nm 4) nilA))) (consA (tupA (consA (nm 3) (consA (fn1 minF (consA (ret (.int 9)) (consA (op2 addF (nm 4) (ret (.int 1))) nilA))) nilA))) (consA (tupA (consA (fn1 minF (consA (op2 addF (nm 3) (ret (.int 1))) (consA (nm 4) nilA))) (consA (nm 4) nilA))) (consA (tupA (consA (nm 3) (consA (fn1 maxF (consA (nm 3) (consA (op2 subI (nm 4) (ret (.int 1))) nilA))) nilA))) nilA)))))))
  (retS (op2 addF (op2 addF (sl3 slF (nm 1) (ret none) (prt (nm 2))) (tupA (consA (op2 ixF (nm 5) (cbV 0 ap' (consA (ret (.int 4)) nilA))) nilA))) (sl3 slF (nm 1) (prt (op2 addF (nm 2) (ret (.int 1)))) (ret none)))))))
noncomputable def d0':List R->Option (R×List R):=fnD 6 2 fi'
noncomputable def fj':M Fl :=
 (seqS (setV 3 (fn1 minF (consA (op2 ixF (frz (lstA (consA (ret (.int 2)) (consA (ret (.int 3)) (consA (ret (.int 4)) (consA (ret (.int 10)) nilA)))))) (cbV 0 ap' (consA (ret (.int 4)) nilA))) (consA (op2 ixF (frz (lstA (consA (ret (.int 10)) (consA (ret (.int 10)) (consA (ret (.int 5)) (consA (ret (.int 4)) nilA)))))) (nm 1)) nilA))))
  (seqS (setV 4 (cbV 0 ap' (consA (op2 subI (ret (.int 11)) (nm 3)) nilA)))
  (seqS (setO 5 (lstA nilA))
  (seqS (forS (fn1 rngI1 (consA (cbV 0 ap' (consA (op2 addF (nm 2) (ret (.int 1))) nilA)) nilA)) (tgN 6)
  (seqS (setV 7 (cbV 0 ap' (consA (ret (.int 6)) nilA)))
  (seqS (setV 8 (cbV 0 eV' (consA (nm 1) (consA (nm 4) (consA (nm 3) nilA)))))
  (seqS (ifS (andT (tst (op2 (eqF false) (nm 7) (ret (.int 0)))) (tst (cmpN true 5 (frz (lstA nilA)))))
  (setV 8 (atN 5 (cbV 0 ap' (consA (lenN 5) nilA)))) (ret .nx))
  (seqS (ifS (andT (tst (op2 (eqF false) (nm 7) (ret (.int 1)))) (tst (cmpN true 5 (frz (lstA nilA)))))
  (setV 8 (cbV 0 d0' (consA (atN 5 (cbV 0 ap' (consA (lenN 5) nilA))) nilA))) (ret .nx))
  (appS 5 (nm 8)))))))
  (retS (nm 5))))))
noncomputable def d1':List R->Option (R×List R):=fnD 9 3 fj'
noncomputable def g2':M Fl :=
 (retS (op2 (eqF false) (frz (compO 2 (fn1 zipI (consA (nm 1) (consA (nm 0) nilA))) (tgTup 2 (tgCons (tgN 0) (tgCons (tgN 1) tgNil))) (orT (tst (op2 ltI (nm 0) (op2 ixF (nm 1) (ret (.int 0))))) (tst (op2 gtI (nm 0) (op2 ixF (nm 1) (ret (.int 1)))))) (ret (.int 1)))) (frz (lstA nilA))))
noncomputable def cW':List R->Option (R×List R):=fnD 2 2 g2'
noncomputable def eJ':M Fl :=
 (seqS (setV 1 (frz (lstA (consA (tupA nilA) nilA))))
  (seqS (forS (itS (nm 0)) (tgTup 2 (tgCons (tgN 2) (tgCons (tgN 3) tgNil)))
  (seqS (setO 4 (lstA nilA))
  (seqS (forS (itS (nm 1)) (tgN 5)
  (extS 4 (frz (compO 1 (fn1 rngI2 (consA (nm 2) (consA (op2 addF (nm 3) (ret (.int 1))) nilA))) (tgN 0) (ret true) (op2 addF (nm 6) (tupA (consA (nm 0) nilA)))))))
  (setV 1 (nm 4)))))
  (retS (nm 1))))
noncomputable def dD':List R->Option (R×List R):=fnD 6 1 eJ'
noncomputable def fk':M Fl :=
 (seqS (setV 2 (fn1 tupF (consA (frz (compO 1 (itS (nm 1)) (tgN 0) (ret true) (op2 ixF (nm 0) (ret (.int 0))))) nilA)))
  (seqS (setV 3 (fn1 tupF (consA (frz (compO 1 (itS (nm 1)) (tgN 0) (ret true) (op2 ixF (nm 0) (ret (.int 1))))) nilA)))
  (retS (andV (fn1 (cvF cW') (consA (nm 0) (consA (nm 2) nilA))) (fn1 (cvF cW') (consA (nm 0) (consA (nm 3) nilA)))))))
noncomputable def d2':List R->Option (R×List R):=fnD 4 2 fk'
noncomputable def gp':M Fl :=
 (seqS (setO 1 (lstA nilA))
  (seqS (forS (itS (frz (fn1 sortF (consA (nm 0) nilA)))) (tgN 2)
  (seqS (setV 3 (frz (compO 1 (itS (nm 0)) (tgN 0) (andT (tst (op2 (eqF true) (nm 0) (nm 3))) (tst (fn1 (cvF d2') (consA (nm 0) (consA (nm 3) nilA))))) (nm 0))))
  (ifS (andT (tst (op2 (eqF false) (nm 3) (frz (lstA nilA)))) (tst (inN true 1 (nm 2))))
  (appS 1 (nm 2)) (ret .nx))))
  (retS (nm 1))))
noncomputable def bE':List R->Option (R×List R):=fnD 4 1 gp'
noncomputable def g3':M Fl :=
 (seqS (setV 2 (op2 addF (ret (.int 1)) (cbV 0 ap' (consA (nm 1) nilA))))
  (seqS (setV 3 (cbV 0 ap' (consA (ret (.int 4)) nilA)))
  (seqS (setO 4 (fn1 rngI1 (consA (nm 2) nilA)))
  (seqS (setV 5 (frz (compO 1 (fn1 rngI1 (consA (nm 2) nilA)) (tgN 0) (ret true) (popAt 5 (consA (cbV 1 ap' (consA (lenN 5) nilA)) nilA)))))
  (seqS (setO 6 (lstA nilA))
  (seqS (forS (fn1 rngI2 (consA (ret (.int 1)) (consA (nm 2) nilA))) (tgN 7)
  (seqS (setV 8 (op2 ixF (frz (lstA (consA (op2 subI (nm 7) (ret (.int 1))) (consA (ret (.int 0)) (consA (cbV 0 ap' (consA (nm 7) nilA)) (consA (cbV 0 ap' (consA (nm 7) nilA)) nilA)))))) (nm 3)))
  (seqS (setV 9 (tupA (consA (fn1 minF (consA (op2 ixF (nm 5) (nm 7)) (consA (op2 ixF (nm 5) (nm 8)) nilA))) (consA (fn1 maxF (consA (op2 ixF (nm 5) (nm 7)) (consA (op2 ixF (nm 5) (nm 8)) nilA))) nilA))))
  (ifS (orT (tst (op2 ltI (nm 3) (ret (.int 3)))) (tst (op2 gtI (cbV 0 ap' (consA (ret (.int 4)) nilA)) (ret (.int 0)))))
  (appS 6 (nm 9)) (ret .nx)))))
  (retS (tupA (consA (nm 2) (consA (fn1 tupF (consA (frz (fn1 sortF (consA (nm 6) nilA))) nilA)) nilA))))))))))
noncomputable def eF':List R->Option (R×List R):=fnD 10 2 g3'
noncomputable def fl':M Fl :=
 (seqS (setO 2 (lstA nilA))
  (seqS (forS (itS (op2 ixF (nm 0) (ret (.int 1)))) (tgTup 2 (tgCons (tgN 3) (tgCons (tgN 4) tgNil)))
  (seqS (ifS (tst (op2 (eqF false) (nm 3) (nm 1)))
  (appS 2 (nm 4)) (ret .nx))
  (ifS (tst (op2 (eqF false) (nm 4) (nm 1)))
  (appS 2 (nm 3)) (ret .nx))))
  (retO (fn1 sortF (consA (nm 2) nilA)))))
noncomputable def bM':List R->Option (R×List R):=fnD 5 2 fl'
noncomputable def fm':M Fl :=
 (seqS (setO 3 (lstA (consA (nm 2) nilA)))
  (seqS (setO 4 (lstA (consA (nm 2) nilA)))
  (seqS (whlS 100 (tst (cmpN true 4 (frz (lstA nilA))))
  (seqS (setV 5 (popV 4))
  (forS (itS (frz (fn1 (coF bM') (consA (nm 0) (consA (nm 5) nilA))))) (tgN 6)
  (ifS (andT (tst (op2 (eqF true) (nm 6) (nm 1))) (tst (inN true 3 (nm 6))))
  (seqS (appS 3 (nm 6))
  (appS 4 (nm 6))) (ret .nx)))))
  (retO (fn1 sortF (consA (nm 3) nilA))))))
noncomputable def cX':List R->Option (R×List R):=fnD 7 3 fm'
noncomputable def fN':M Fl :=
 (seqS (setV 4 (cbV 0 d1' (consA (nm 2) (consA (nm 3) nilA))))
  (retO (compO 1 (itS (nm 4)) (tgN 0) (ret true) (tupA (consA (cbV 1 ap' (consA (op2 ixF (nm 2) (ret (.int 0))) nilA)) (consA (nm 0) nilA))))))
noncomputable def eu':List R->Option (R×List R):=fnD 5 4 fN'
noncomputable def eK':M Fl :=
 (seqS (forS (itS (fn1 (cvF dD') (consA (nm 1) nilA))) (tgN 2)
  (ifS (tst (op2 (eqF false) (frz (compO 1 (itS (nm 0)) (tgN 0) (tst (fn1 (cvF cW') (consA (nm 0) (consA (nm 3) nilA)))) (ret (.int 1)))) (frz (lstA nilA))))
  (retS (ret (.bl false))) (ret .nx)))
  (retS (ret (.bl true))))
noncomputable def dE':List R->Option (R×List R):=fnD 3 2 eK'
noncomputable def fO':M Fl :=
 (seqS (setV 2 (fn1 (cvF bE') (consA (nm 1) nilA)))
  (seqS (setV 3 (ret (.int 0)))
  (seqS (whlS 100 (andT (tst (op2 (eqF false) (nm 0) (ret (.str "spare")))) (tst (op2 ltI (nm 3) (fn1 lenF (consA (nm 2) nilA)))))
  (seqS (setV 4 (frz (op2 catF (sl3 slF (nm 2) (ret none) (prt (nm 3))) (sl3 slF (nm 2) (prt (op2 addF (nm 3) (ret (.int 1)))) (ret none)))))
  (ifS (tst (fn1 (cvF dE') (consA (nm 4) (consA (op2 ixF (nm 2) (nm 3)) nilA))))
  (setV 2 (nm 4)) (setV 3 (op2 addF (nm 3) (ret (.int 1)))))))
  (retS (nm 2)))))
noncomputable def bG':List R->Option (R×List R):=fnD 5 2 fO'
noncomputable def dF' (g:List R->Option (R×List R)):M Fl :=
 (seqS (setV 5 (frz (compO 2 (itS (nm 1)) (tgTup 2 (tgCons (tgN 0) (tgCons (tgN 1) tgNil))) (tst (op2 (eqF false) (nm 0) (nm 5))) (nm 1))))
  (seqS (forS (itS (frz (fn1 (coF bM') (consA (nm 0) (consA (nm 3) nilA))))) (tgN 6)
  (ifS (tst (op2 (eqF true) (nm 6) (nm 4)))
  (setV 5 (frz (op2 catF (nm 5) (fn1 (cvF g) (consA (nm 0) (consA (nm 1) (consA (nm 2) (consA (nm 6) (consA (nm 3) nilA))))))))) (ret .nx)))
  (retS (fn1 (cvF bG') (consA (nm 2) (consA (nm 5) nilA))))))
noncomputable def bP':Nat->List R->Option (R×List R)
 | 0=>fun _=>none
 | k+1=>fnD 7 5 (dF' (bP' k))
noncomputable def fP':M Fl :=
 (seqS (setV 5 (fn1 (cvF (bP' 20)) (consA (nm 0) (consA (nm 1) (consA (nm 2) (consA (nm 4) (consA (nm 3) nilA)))))))
  (seqS (setV 6 (frz (fn1 (coF cX') (consA (nm 0) (consA (nm 3) (consA (nm 4) nilA))))))
  (seqS (setV 7 (frz (compO 2 (itS (nm 1)) (tgTup 2 (tgCons (tgN 0) (tgCons (tgN 1) tgNil))) (tst (op2 (inF false) (nm 0) (nm 8))) (nm 1))))
  (seqS (ifS (andT (tst (op2 (eqF false) (nm 2) (ret (.str "roof")))) (tst (op2 (eqF true) (nm 5) (fn1 (cvF bE') (consA (nm 7) nilA)))))
  (retS (ret (.bl false))) (ret .nx))
  (seqS (setV 8 (frz (fn1 lstF (consA (nm 1) nilA))))
  (seqS (setV 9 (frz (fn1 (coF eU') (consA (nm 0) (consA (nm 8) (consA (nm 2) (consA (nm 3) (consA (nm 4) nilA))))))))
  (retS (andV (fn1 (cvF (a6' 8)) (consA (nm 9) (consA (nm 5) nilA))) (op2 (eqF false) (nm 8) (nm 1))))))))))
noncomputable def br':List R->Option (R×List R):=fnD 10 5 fP'
noncomputable def oe':M Fl :=
 (seqS (setO 1 (fn1 (coF eE') (consA (nm 0) nilA)))
  (seqS (forS (fn1 rngI1 (consA (ret (.int 3)) nilA)) (tgN 2)
  (seqS (setV 3 (cbV 1 eF' (consA (ret (.int 7)) nilA)))
  (seqS (setV 4 (frz (cbO 1 eu' (consA (nm 3) (consA (op2 addF (ret (.int 1)) (cbV 1 ap' (consA (ret (.int 3)) nilA))) (consA (ret (.int 8)) nilA))))))
  (forS (itS (frz (lstA (consA (ret (.str "roof")) (consA (ret (.str "spare")) nilA))))) (tgN 5)
  (seqS (setV 6 (frz (compO 2 (itS (nm 4)) (tgTup 2 (tgCons (tgN 0) (tgCons (tgN 1) tgNil))) (ret true) (nm 1))))
  (seqS (setV 7 (frz (fn1 lstF (consA (nm 6) nilA))))
  (seqS (setO 8 (fn1 (coF cp') (consA (nm 5) (consA (nm 7) nilA))))
  (seqS (ifS (orT (notT (tst (lendV 8 (a6' 8) (consA (fn1 (cvF bG') (consA (nm 5) (consA (nm 6) nilA))) nilA)))) (tst (op2 (eqF true) (nm 7) (nm 6))))
  (retS (ret (.bl false))) (ret .nx))
  (seqS (appS 8 (ret (.str "")))
  (seqS (ifS (tst (op2 (eqF true) (nm 7) (nm 6)))
  (retS (ret (.bl false))) (ret .nx))
  (forS (itS (op2 ixF (nm 3) (ret (.int 1)))) (tgTup 2 (tgCons (tgN 9) (tgCons (tgN 10) tgNil)))
  (ifS (orT (notT (tst (fn1 (cvF br') (consA (nm 3) (consA (nm 4) (consA (nm 5) (consA (nm 9) (consA (nm 10) nilA)))))))) (notT (tst (fn1 (cvF br') (consA (nm 3) (consA (nm 4) (consA (nm 5) (consA (nm 10) (consA (nm 9) nilA)))))))))
  (retS (ret (.bl false))) (ret .nx)))))))))))))
  (seqS (setV 3 (cbV 1 eF' (consA (ret (.int 5)) nilA)))
  (seqS (setV 4 (frz (compO 1 (fn1 rngI1 (consA (ret (.int 10)) nilA)) (tgN 0) (ret true) (tupA (consA (cbV 2 ap' (consA (op2 ixF (nm 4) (ret (.int 0))) nilA)) (consA (tupA (consA (tupA (consA (nm 0) (consA (nm 0) nilA))) (consA (tupA (consA (op2 subI (ret (.int 9)) (nm 0)) (consA (ret (.int 9)) nilA))) nilA))) nilA))))))
  (seqS (forS (itS (op2 ixF (nm 3) (ret (.int 1)))) (tgTup 2 (tgCons (tgN 9) (tgCons (tgN 10) tgNil)))
  (forS (itS (frz (lstA (consA (ret (.str "roof")) (consA (ret (.str "spare")) nilA))))) (tgN 5)
  (ifS (orT (notT (tst (fn1 (cvF br') (consA (nm 3) (consA (nm 4) (consA (nm 5) (consA (nm 9) (consA (nm 10) nilA)))))))) (notT (tst (fn1 (cvF br') (consA (nm 3) (consA (nm 4) (consA (nm 5) (consA (nm 10) (consA (nm 9) nilA)))))))))
  (retS (ret (.bl false))) (ret .nx))))
  (retS (ret (.bl true))))))))
noncomputable def gq':List R->Option (R×List R):=fnD 11 1 oe'
end Own
namespace Own
open PySem PySem.Spec PyProof.Rows L2 DL
theorem ah' {N:List Str} (h:decide N.Nodup=true):N.Nodup:=of_decide_eq_true h
def top (i:Nat):Stmt:=PySem.Challenge.pw_roofpost_k28_tables_when_all_is_still.main.body.getD i (.Pass ⟨0,0,0,0⟩)
abbrev bQ':Stmt:=top 6
abbrev ej':Stmt:=top 7
abbrev cF':Stmt:=top 8
abbrev dO':Stmt:=top 9
abbrev be':Stmt:=top 10
abbrev dP':Stmt:=top 12
abbrev bb':Stmt:=top 13
abbrev bJ':Stmt:=top 14
abbrev cG':Stmt:=top 15
abbrev db':Stmt:=top 16
abbrev bw':Stmt:=top 18
abbrev bK':Stmt:=top 19
abbrev bx':Stmt:=top 20
abbrev dc':Stmt:=top 22
abbrev cH':Stmt:=top 23
abbrev dd':Stmt:=top 24
abbrev cr':Stmt:=top 25
abbrev cI':Stmt:=top 27
abbrev dQ':Stmt:=top 28
abbrev de':Stmt:=top 29
abbrev ct':Stmt:=top 30
abbrev df':Stmt:=top 31
abbrev ca':Stmt:=top 32
abbrev cb':Stmt:=top 33
abbrev dR':Stmt:=top 34
abbrev bR':Stmt:=top 35
abbrev cc':Stmt:=top 36
abbrev dg':Stmt:=top 37
abbrev dS':Stmt:=top 38
abbrev cd':Stmt:=top 39
abbrev ce':Stmt:=top 40
abbrev cJ':Stmt:=top 41
abbrev bS':Stmt:=top 42
abbrev cK':Stmt:=top 43
abbrev by':Stmt:=top 44
abbrev cL':Stmt:=top 45
abbrev eW':Stmt:=top 46
structure Cd (P:Program) (w:World) (K:PySem.W.Frag) (mg:Str->Option Value) (base:Heap) (k:Nat) (f:Addr) (fd:FuncData) (ps:List Str) (g:List R->Option (R×List R)) (x:Str):Prop where
 G:FnOk P w K mg base CX0 k f fd ps (spD K g)
 b:Binds K fd ps []
 p:PySem.W.keepIn K (.ref f)=true
 m:mg x=some (.ref f)
section
variable {P:Program}{w:World}{K:PySem.W.Frag}{mg:Str->Option Value}{base:Heap}
theorem jv':FnScope ["things", "thing"] ["things"] (defScope bQ'):=⟨rfl,rfl,rfl,by decide +kernel,rfl,by decide +kernel,by decide +kernel⟩
theorem jw' {f:Addr}{fd:FuncData} (F:Fun K "must_be_kin" "must_be_kin" bQ' f fd) (z_len:mg "len"=none):FnOk P w K mg base CX0 2 f fd ["things"] (spD K aE') :=
 aL' (k:=1) (N:=["things", "thing"]) F jv' eI' (fun cdv A outer s H E B hr=>aC'
  (aj' (aY' PassesOwn.never rfl (az' (aa' (pv 0))) (gd_n (i:=1) (m:=100) (ah' (by kernel_rfl)))
  (aj' (aM' (c6' hr (dt' rfl z_len (ab' (aa' (pv 1)) ac' rfl)) (dt' rfl z_len (ab' (an' (aa' (pv 0)) ag') ac' rfl)))
  (aj' (ak' ih')) aF')))))
theorem pP':FnScope ["one", "other"] ["one", "other"] (defScope ej'):=⟨rfl,rfl,rfl,by decide +kernel,rfl,by decide +kernel,by decide +kernel⟩
theorem pQ' {f:Addr}{fd:FuncData} (F:Fun K "covers" "covers" ej' f fd) {a7' a3'} (al':Cd P w K mg base 2 a7' a3' ["things"] aE' "must_be_kin") (z_zip:mg "zip"=none) (z_all:mg "all"=none):FnOk P w K mg base CX0 3 f fd ["one", "other"] (spD K dL') :=
 aL' (k:=2) (N:=["one", "other"]) F pP' iv' (fun cdv A outer s H E B hr=>aC'
  (af' (ak' (c4' (aq' al'.G (hr.mono (by decide)) rfl al'.m al'.p al'.b (ab' (aw' (aO' (ab' (aa' (pv 0)) (ab' (aa' (pv 1)) ac' rfl) rfl))) ac' rfl))))
  (aj' (ak' (av' (tn' rfl rfl z_all (ab' (aw' (bn' (N':=["wide", "pair", "-one", "-other"]) (m:=2) (CompScope.of (by kernel_rfl)) rfl (hJ' rfl z_zip (ab' (aa' (pv 0)) (ab' (aa' (pv 1)) ac' rfl) rfl)) (fun _ _ _ _=>(bX' (m:=2) rfl (aA' (gd_n (i:=0) (m:=2) (ah' (by kernel_rfl))) (aA' (gd_n (i:=1) (m:=2) (ah' (by kernel_rfl))) bv')))) (fun _ _ _ _=>bI') (fun _ _ _ _=>(ey' (rn' (an' (aa' (pv 0)) ag') (an' (aa' (pv 1)) ag')) (fe' (rn' (an' (aa' (pv 1)) ag') (an' (aa' (pv 0)) ag'))))))) ac' rfl)))))))
theorem lK':FnScope ["one", "other", "shared", "pair", "twin", "low", "high"] ["one", "other"] (defScope cF'):=⟨rfl,rfl,rfl,by decide +kernel,rfl,by decide +kernel,by decide +kernel⟩
theorem lL' {f:Addr}{fd:FuncData} (F:Fun K "in_common" "in_common" cF' f fd) {a7' a3'} (al':Cd P w K mg base 2 a7' a3' ["things"] aE' "must_be_kin") (z_zip:mg "zip"=none) (z_max:mg "max"=none) (z_min:mg "min"=none) (z_tuple:mg "tuple"=none):FnOk P w K mg base CX0 3 f fd ["one", "other"] (spD K dv') :=
 aL' (k:=2) (N:=["one", "other", "shared", "pair", "twin", "low", "high"]) F lK' fJ' (fun cdv A outer s H E B hr=>aC'
  (af' (ak' (c4' (aq' al'.G (hr.mono (by decide)) rfl al'.m al'.p al'.b (ab' (aw' (aO' (ab' (aa' (pv 0)) (ab' (aa' (pv 1)) ac' rfl) rfl))) ac' rfl))))
  (af' (ak' (bm' (i:=2) (ah' (by kernel_rfl)) (aO' ac')))
  (af' (aY' PassesOwn.never rfl (hJ' rfl z_zip (ab' (aa' (pv 0)) (ab' (aa' (pv 1)) ac' rfl) rfl)) (bX' (m:=100) rfl (aA' (gd_n (i:=3) (m:=100) (ah' (by kernel_rfl))) (aA' (gd_n (i:=4) (m:=100) (ah' (by kernel_rfl))) bv')))
  (af' (ao' (i:=5) (ah' (by kernel_rfl)) (gM' rfl rfl z_max (ab' (an' (aa' (pv 3)) ag') (ab' (an' (aa' (pv 4)) ag') ac' rfl) rfl)))
  (af' (ao' (i:=6) (ah' (by kernel_rfl)) (f5' rfl rfl z_min (ab' (an' (aa' (pv 3)) ag') (ab' (an' (aa' (pv 4)) ag') ac' rfl) rfl)))
  (af' (aM' (n2' (aa' (pv 5)) (aa' (pv 6)))
  (aj' (ak' (av' fa'))) aF')
  (aj' (ak' (cx' (pv 2) (aN' (ab' (aa' (pv 5)) (ab' (aa' (pv 6)) ac' rfl) rfl)))))))))
  (aj' (ak' (av' (ef' rfl z_tuple (ab' (aa' (pv 2)) ac' rfl)))))))))
theorem of':FnScope ["wishes", "unlike"] ["wishes"] (defScope dO'):=⟨rfl,rfl,rfl,by decide +kernel,rfl,by decide +kernel,by decide +kernel⟩
theorem og' {f:Addr}{fd:FuncData} (F:Fun K "roof_of" "roof_of" dO' f fd) {a7' a3'} (al':Cd P w K mg base 2 a7' a3' ["things"] aE' "must_be_kin") {g8' gF'} (bf':Cd P w K mg base 4 g8' gF' ["wishes", "wish"] b1' "is_under_another") (z_sorted:mg "sorted"=none) (z_set:mg "set"=none):FnOk P w K mg base CX0 5 f fd ["wishes"] (spD K cV') :=
 aL' (k:=4) (N:=["wishes", "unlike"]) F of' gZ' (fun cdv A outer s H E B hr=>aC'
  (af' (ak' (c4' (aq' al'.G (hr.mono (by decide)) rfl al'.m al'.p al'.b (ab' (aa' (pv 0)) ac' rfl))))
  (af' (ao' (i:=1) (ah' (by kernel_rfl)) (aw' (od' hr rfl z_sorted rfl z_set (ab' (aa' (pv 0)) ac' rfl))))
  (aj' (ak' (b8' (bn' (N':=["wish", "-wishes", "unlike"]) (m:=1) (CompScope.of (by kernel_rfl)) rfl (az' (aa' (pv 1))) (fun _ _ _ _=>(gd_n (i:=0) (m:=1) (ah' (by kernel_rfl)))) (fun _ _ _ _=>(cD' (fd' (bW' (aq' bf'.G (hr.mono (by decide)) rfl bf'.m bf'.p bf'.b (ab' (aa' (pv 2)) (ab' (aa' (pv 0)) ac' rfl) rfl)))))) (fun _ _ _ _=>(aa' (pv 0))))))))))
theorem gD':FnScope ["wishes", "wish"] ["wishes", "wish"] (defScope be'):=⟨rfl,rfl,rfl,by decide +kernel,rfl,by decide +kernel,by decide +kernel⟩
theorem gE' {f:Addr}{fd:FuncData} (F:Fun K "is_under_another" "is_under_another" be' f fd) {fp' eH'} (bc':Cd P w K mg base 3 fp' eH' ["one", "other"] dL' "covers") (z_any:mg "any"=none):FnOk P w K mg base CX0 4 f fd ["wishes", "wish"] (spD K b1') :=
 aL' (k:=3) (N:=["wishes", "wish"]) F gD' cU' (fun cdv A outer s H E B hr=>aC'
  (aj' (ak' (av' (tp' rfl rfl z_any (ab' (aw' (bn' (N':=["one", "-wishes", "wish"]) (m:=1) (CompScope.of (by kernel_rfl)) rfl (az' (aa' (pv 0))) (fun _ _ _ _=>(gd_n (i:=0) (m:=1) (ah' (by kernel_rfl)))) (fun _ _ _ _=>bI') (fun _ _ _ _=>(ey' (ue' hr (aa' (pv 0)) (aa' (pv 2))) (fe' (aq' bc'.G (hr.mono (by decide)) rfl bc'.m bc'.p bc'.b (ab' (aa' (pv 0)) (ab' (aa' (pv 2)) ac' rfl) rfl))))))) ac' rfl))))))
theorem oh':FnScope ["wishes", "wish"] ["wishes", "wish"] (defScope dP'):=⟨rfl,rfl,rfl,by decide +kernel,rfl,by decide +kernel,by decide +kernel⟩
theorem oi' {f:Addr}{fd:FuncData} (F:Fun K "covered" "covered" dP' f fd) {a7' a3'} (al':Cd P w K mg base 2 a7' a3' ["things"] aE' "must_be_kin") {iD' hX'} (bo':Cd P w K mg base 45 iD' hX' ["wishes", "numbers", "part"] (ba' 40) "looked_through") (z_len:mg "len"=none) (z_list:mg "list"=none) (z_range:mg "range"=none):FnOk P w K mg base CX0 46 f fd ["wishes", "wish"] (spD K eD') :=
 aL' (k:=45) (N:=["wishes", "wish"]) F oh' g0' (fun cdv A outer s H E B hr=>aC'
  (af' (ak' (c4' (aq' al'.G (hr.mono (by decide)) rfl al'.m al'.p al'.b (ab' (aw' (le' (aw' (aO' (ab' (aa' (pv 1)) ac' rfl))) (aa' (pv 0)))) ac' rfl))))
  (aj' (ak' (av' (aq' bo'.G (hr.mono (by decide)) rfl bo'.m bo'.p bo'.b (ab' (aa' (pv 0)) (ab' (aw' (gP' rfl rfl z_list rfl z_range (ab' (dt' rfl z_len (ab' (aa' (pv 0)) ac' rfl)) ac' rfl))) (ab' (aa' (pv 1)) ac' rfl) rfl) rfl)))))))
theorem hV':FnScope ["wishes", "numbers", "part", "near", "k", "place", "halves", "one", "other"] ["wishes", "numbers", "part"] (defScope bb'):=⟨rfl,rfl,rfl,by decide +kernel,rfl,by decide +kernel,by decide +kernel⟩
theorem hW' {g:List R->Option (R×List R)}{kk:Nat} (hk:4<=kk){f:Addr}{fd:FuncData} (F:Fun K "looked_through" "looked_through" bb' f fd) (G:FnOk P w K mg base CX0 kk f fd ["wishes", "numbers", "part"] (spD K g)) {fR' fq'} (bs':Cd P w K mg base 3 fR' fq' ["one", "other"] dv' "in_common") {fp' eH'} (bc':Cd P w K mg base 3 fp' eH' ["one", "other"] dL' "covers") {en' d6'} (a4':Cd P w K mg base 2 en' d6' ["wishes", "part"] b9' "first_border") {fS' fr'} (bt':Cd P w K mg base 2 fS' fr' ["part", "field", "at"] dw' "halves_of") (z_len:mg "len"=none) (z_tuple:mg "tuple"=none) (aZ':Binds K fd ["wishes", "numbers", "part"] []) (bN':PySem.W.keepIn K (.ref f)=true) (a0':mg "looked_through"=some (.ref f)):FnOk P w K mg base CX0 (kk+1) f fd ["wishes", "numbers", "part"] (spD K (fnD 9 3 (co' g))) :=
 aL' (N:=["wishes", "numbers", "part", "near", "k", "place", "halves", "one", "other"]) F hV' (co' g) (fun cdv A outer s H E B hr=>aC'
  (af' (ak' (b6' (i:=3) (N':=["k", "wishes", "-numbers", "part", "-near", "-k", "-place", "-halves", "-one", "-other"]) (m:=1) (CompScope.of (by kernel_rfl)) rfl (ah' (by kernel_rfl)) (az' (aa' (pv 1))) (fun _ _ _ _=>(gd_n (i:=0) (m:=1) (ah' (by kernel_rfl)))) (fun _ _ _ _=>(cD' (rZ' (aq' bs'.G (hr.mono (Nat.le_trans (by decide) hk)) rfl bs'.m bs'.p bs'.b (ab' (an' (aa' (pv 1)) (aa' (pv 0))) (ab' (aa' (pv 3)) ac' rfl) rfl)) fa'))) (fun _ _ _ _=>(aa' (pv 0)))))
  (af' (aM' (b7' hr (dt' rfl z_len (ab' (aa' (pv 3)) ac' rfl)) ag')
  (aj' (ak' (av' (aN' (ab' bu' (ab' (ef' rfl z_tuple (ab' (aw' (bn' (N':=["pair", "-wishes", "-numbers", "-part", "-near", "-k", "-place", "-halves", "-one", "-other"]) (m:=1) (CompScope.of (by kernel_rfl)) rfl (az' (aa' (pv 2))) (fun _ _ _ _=>(gd_n (i:=0) (m:=1) (ah' (by kernel_rfl)))) (fun _ _ _ _=>bI') (fun _ _ _ _=>(an' (aa' (pv 0)) ag')))) ac' rfl)) ac' rfl) rfl))))) aF')
  (af' (aY' PassesOwn.never rfl (az' (aa' (pv 3))) (gd_n (i:=4) (m:=100) (ah' (by kernel_rfl)))
  (aj' (aM' (bW' (aq' bc'.G (hr.mono (Nat.le_trans (by decide) hk)) rfl bc'.m bc'.p bc'.b (ab' (an' (aa' (pv 0)) (aa' (pv 4))) (ab' (aa' (pv 2)) ac' rfl) rfl)))
  (aj' (ak' (av' (aN' (ab' bu' (ab' (aN' (ab' bu' (ab' (aa' (pv 4)) ac' rfl) rfl)) ac' rfl) rfl))))) aF')))
  (af' (ao' (i:=5) (ah' (by kernel_rfl)) (aq' a4'.G (hr.mono (Nat.le_trans (by decide) hk)) rfl a4'.m a4'.p a4'.b (ab' (aw' (bn' (N':=["k", "wishes", "-numbers", "-part", "-near", "-k", "-place", "-halves", "-one", "-other"]) (m:=1) (CompScope.of (by kernel_rfl)) rfl (az' (aa' (pv 3))) (fun _ _ _ _=>(gd_n (i:=0) (m:=1) (ah' (by kernel_rfl)))) (fun _ _ _ _=>bI') (fun _ _ _ _=>(an' (aa' (pv 1)) (aa' (pv 0)))))) (ab' (aa' (pv 2)) ac' rfl) rfl)))
  (af' (ao' (i:=6) (ah' (by kernel_rfl)) (aq' bt'.G (hr.mono (Nat.le_trans (by decide) hk)) rfl bt'.m bt'.p bt'.b (ab' (aa' (pv 2)) (ab' (an' (aa' (pv 5)) ag') (ab' (an' (aa' (pv 5)) ag') ac' rfl) rfl) rfl)))
  (af' (ao' (i:=7) (ah' (by kernel_rfl)) (aq' G hr rfl a0' bN' aZ' (ab' (aa' (pv 0)) (ab' (aa' (pv 3)) (ab' (an' (aa' (pv 6)) ag') ac' rfl) rfl) rfl)))
  (af' (aM' (b7' hr (an' (aa' (pv 7)) ag') bu')
  (aj' (ak' (av' (aa' (pv 7))))) aF')
  (af' (ao' (i:=8) (ah' (by kernel_rfl)) (aq' G hr rfl a0' bN' aZ' (ab' (aa' (pv 0)) (ab' (aa' (pv 3)) (ab' (an' (aa' (pv 6)) ag') ac' rfl) rfl) rfl)))
  (af' (aM' (b7' hr (an' (aa' (pv 8)) ag') bu')
  (aj' (ak' (av' (aa' (pv 8))))) aF')
  (aj' (ak' (av' (aN' (ab' bu' (ab' (aN' (cz' bu' (an' (aa' (pv 5)) ag') (an' (aa' (pv 5)) ag') (an' (aa' (pv 7)) ag') (ab' (an' (aa' (pv 8)) ag') ac' rfl) rfl rfl rfl rfl)) ac' rfl) rfl)))))))))))))))
theorem eN' {f:Addr}{fd:FuncData} (F:Fun K "looked_through" "looked_through" bb' f fd) {fR' fq'} (bs':Cd P w K mg base 3 fR' fq' ["one", "other"] dv' "in_common") {fp' eH'} (bc':Cd P w K mg base 3 fp' eH' ["one", "other"] dL' "covers") {en' d6'} (a4':Cd P w K mg base 2 en' d6' ["wishes", "part"] b9' "first_border") {fS' fr'} (bt':Cd P w K mg base 2 fS' fr' ["part", "field", "at"] dw' "halves_of") (z_len:mg "len"=none) (z_tuple:mg "tuple"=none) (aZ':Binds K fd ["wishes", "numbers", "part"] []) (bN':PySem.W.keepIn K (.ref f)=true) (a0':mg "looked_through"=some (.ref f)):∀ n:Nat,FnOk P w K mg base CX0 (5+n) f fd ["wishes", "numbers", "part"] (spD K (ba' n))
 | 0=>hK'
 | n+1=>hW' (Nat.le_trans (by decide) (Nat.le_add_right _ n)) F (eN' F bs' bc' a4' bt' z_len z_tuple aZ' bN' a0' n) bs' bc' a4' bt' z_len z_tuple aZ' bN' a0'
theorem iW':FnScope ["wishes", "part", "places", "field", "pair", "wish"] ["wishes", "part"] (defScope bJ'):=⟨rfl,rfl,rfl,by decide +kernel,rfl,by decide +kernel,by decide +kernel⟩
theorem iX' {f:Addr}{fd:FuncData} (F:Fun K "first_border" "first_border" bJ' f fd) (z_enumerate:mg "enumerate"=none) (z_min:mg "min"=none):FnOk P w K mg base CX0 2 f fd ["wishes", "part"] (spD K b9') :=
 aL' (k:=1) (N:=["wishes", "part", "places", "field", "pair", "wish"]) F iW' eh' (fun cdv A outer s H E B hr=>aC'
  (af' (ak' (bm' (i:=2) (ah' (by kernel_rfl)) (aO' ac')))
  (af' (aY' PassesOwn.never rfl (lk' rfl z_enumerate (ab' (aa' (pv 1)) ac' rfl)) (bX' (m:=100) rfl (aA' (gd_n (i:=3) (m:=100) (ah' (by kernel_rfl))) (aA' (gd_n (i:=4) (m:=100) (ah' (by kernel_rfl))) bv')))
  (aj' (aY' PassesOwn.never rfl (az' (aa' (pv 0))) (gd_n (i:=5) (m:=100) (ah' (by kernel_rfl)))
  (af' (aM' (ge' (an' (aa' (pv 4)) ag') (an' (an' (aa' (pv 5)) (aa' (pv 3))) ag'))
  (aj' (ak' (cx' (pv 2) (aN' (ab' (aa' (pv 3)) (ab' (f4' (an' (an' (aa' (pv 5)) (aa' (pv 3))) ag') ag') ac' rfl) rfl))))) aF')
  (aj' (aM' (ge' (an' (an' (aa' (pv 5)) (aa' (pv 3))) ag') (an' (aa' (pv 4)) ag'))
  (aj' (ak' (cx' (pv 2) (aN' (ab' (aa' (pv 3)) (ab' (an' (an' (aa' (pv 5)) (aa' (pv 3))) ag') ac' rfl) rfl))))) aF'))))))
  (aj' (ak' (av' (r3' rfl hr rfl z_min (ab' (aa' (pv 2)) ac' rfl))))))))
theorem lM':FnScope ["part", "field", "at", "ahead", "behind", "low", "high"] ["part", "field", "at"] (defScope cG'):=⟨rfl,rfl,rfl,by decide +kernel,rfl,by decide +kernel,by decide +kernel⟩
theorem lN' {f:Addr}{fd:FuncData} (F:Fun K "halves_of" "halves_of" cG' f fd) :FnOk P w K mg base CX0 2 f fd ["part", "field", "at"] (spD K dw') :=
 aL' (k:=1) (N:=["part", "field", "at", "ahead", "behind", "low", "high"]) F lM' fK' (fun cdv A outer s H E B hr=>aC'
  (af' (ao' (i:=3) (ah' (by kernel_rfl)) (fx' (aa' (pv 0)) ee' (c7' (aa' (pv 1)))))
  (af' (ao' (i:=4) (ah' (by kernel_rfl)) (fx' (aa' (pv 0)) (c7' (aI' (aa' (pv 1)) ag')) ee'))
  (af' (ao' (i:=5) (ah' (by kernel_rfl)) (an' (an' (aa' (pv 0)) (aa' (pv 1))) ag'))
  (af' (ao' (i:=6) (ah' (by kernel_rfl)) (an' (an' (aa' (pv 0)) (aa' (pv 1))) ag'))
  (aj' (ak' (av' (aN' (ab' (aI' (aI' (aa' (pv 3)) (aN' (ab' (aN' (ab' (aa' (pv 5)) (ab' (aa' (pv 2)) ac' rfl) rfl)) ac' rfl))) (aa' (pv 4))) (ab' (aI' (aI' (aa' (pv 3)) (aN' (ab' (aN' (ab' (aI' (aa' (pv 2)) ag') (ab' (aa' (pv 6)) ac' rfl) rfl)) ac' rfl))) (aa' (pv 4))) ac' rfl) rfl))))))))))
theorem mz':FnScope ["wishes", "roof", "stay", "wish", "others"] ["wishes"] (defScope db'):=⟨rfl,rfl,rfl,by decide +kernel,rfl,by decide +kernel,by decide +kernel⟩
theorem mA' {f:Addr}{fd:FuncData} (F:Fun K "spare_of" "spare_of" db' f fd) {g9' gu'} (bl':Cd P w K mg base 5 g9' gu' ["wishes"] cV' "roof_of") {qc' oE'} (dU':Cd P w K mg base 46 qc' oE' ["wishes", "wish"] eD' "covered"):FnOk P w K mg base CX0 47 f fd ["wishes"] (spD K eS') :=
 aL' (k:=46) (N:=["wishes", "roof", "stay", "wish", "others"]) F mz' eR' (fun cdv A outer s H E B hr=>aC'
  (af' (ak' (sh' (i:=1) (ah' (by kernel_rfl)) (bk' bl'.G (hr.mono (by decide)) rfl bl'.m bl'.p bl'.b (ab' (aa' (pv 0)) ac' rfl))))
  (af' (ak' (rz' (i:=2) (j:=1) (ah' (by kernel_rfl)) (pv 1)))
  (af' (aY' PassesOwn.never rfl (az' (aa' (pv 1))) (gd_n (i:=3) (m:=100) (ah' (by kernel_rfl)))
  (af' (ak' (my' (i:=4) (N':=["one", "-wishes", "-roof", "-stay", "wish", "-others"]) (m:=1) (CompScope.of (by kernel_rfl)) rfl (ah' (by kernel_rfl)) (az' (aa' (pv 2))) (fun _ _ _ _=>(gd_n (i:=0) (m:=1) (ah' (by kernel_rfl)))) (fun _ _ _ _=>(cD' (c6' hr (aa' (pv 0)) (aa' (pv 4))))) (fun _ _ _ _=>(aa' (pv 0)))))
  (aj' (aM' (b7' hr (an' (aq' dU'.G (hr.mono (by decide)) rfl dU'.m dU'.p dU'.b (ab' (aa' (pv 4)) (ab' (aa' (pv 3)) ac' rfl) rfl)) ag') bu')
  (aj' (ak' (rz' (i:=2) (j:=4) (ah' (by kernel_rfl)) (pv 4)))) aF'))))
  (aj' (ak' (si' (pv 2))))))))
theorem iw':FnScope ["web", "house"] ["web", "house"] (defScope bw'):=⟨rfl,rfl,rfl,by decide +kernel,rfl,by decide +kernel,by decide +kernel⟩
theorem ix' {f:Addr}{fd:FuncData} (F:Fun K "must_be_house" "must_be_house" bw' f fd) :FnOk P w K mg base CX0 2 f fd ["web", "house"] (spD K bh') :=
 aL' (k:=1) (N:=["web", "house"]) F iw' dY' (fun cdv A outer s H E B hr=>aC'
  (aj' (aM' (fd' (rW' ag' (aa' (pv 1)) (an' (aa' (pv 0)) ag')))
  (aj' (ak' ih')) aF')))
theorem iY':FnScope ["web", "one", "other"] ["web", "one", "other"] (defScope bK'):=⟨rfl,rfl,rfl,by decide +kernel,rfl,by decide +kernel,by decide +kernel⟩
theorem iZ' {f:Addr}{fd:FuncData} (F:Fun K "must_be_road" "must_be_road" bK' f fd) {d7' dM'} (as':Cd P w K mg base 2 d7' dM' ["web", "house"] bh' "must_be_house") {b2' bO'} (ax':Cd P w K mg base 3 b2' bO' ["web", "house"] bi' "neighbours_of"):FnOk P w K mg base CX0 4 f fd ["web", "one", "other"] (spD K c9') :=
 aL' (k:=3) (N:=["web", "one", "other"]) F iY' ei' (fun cdv A outer s H E B hr=>aC'
  (af' (ak' (c4' (aq' as'.G (hr.mono (by decide)) rfl as'.m as'.p as'.b (ab' (aa' (pv 0)) (ab' (aa' (pv 1)) ac' rfl) rfl))))
  (af' (ak' (c4' (aq' as'.G (hr.mono (by decide)) rfl as'.m as'.p as'.b (ab' (aa' (pv 0)) (ab' (aa' (pv 2)) ac' rfl) rfl))))
  (aj' (aM' (tj' hr (aa' (pv 2)) (aw' (bk' ax'.G (hr.mono (by decide)) rfl ax'.m ax'.p ax'.b (ab' (aa' (pv 0)) (ab' (aa' (pv 1)) ac' rfl) rfl))))
  (aj' (ak' ih')) aF')))))
theorem iy':FnScope ["web", "house"] ["web", "house"] (defScope bx'):=⟨rfl,rfl,rfl,by decide +kernel,rfl,by decide +kernel,by decide +kernel⟩
theorem iz' {f:Addr}{fd:FuncData} (F:Fun K "neighbours_of" "neighbours_of" bx' f fd) {d7' dM'} (as':Cd P w K mg base 2 d7' dM' ["web", "house"] bh' "must_be_house") (z_sorted:mg "sorted"=none):FnOk P w K mg base CX0 3 f fd ["web", "house"] (spD K bi') :=
 aL' (k:=2) (N:=["web", "house"]) F iy' dZ' (fun cdv A outer s H E B hr=>aC'
  (af' (ak' (c4' (aq' as'.G (hr.mono (by decide)) rfl as'.m as'.p as'.b (ab' (aa' (pv 0)) (ab' (aa' (pv 1)) ac' rfl) rfl))))
  (aj' (ak' (b8' (eC' hr rfl z_sorted (ab' (aw' (bn' (N':=["road", "-web", "house"]) (m:=1) (CompScope.of (by kernel_rfl)) rfl (az' (an' (aa' (pv 0)) ag')) (fun _ _ _ _=>(gd_n (i:=0) (m:=1) (ah' (by kernel_rfl)))) (fun _ _ _ _=>(cD' (ro' hr (aa' (pv 2)) (aa' (pv 0))))) (fun _ _ _ _=>(s6' (b7' hr (an' (aa' (pv 0)) ag') (aa' (pv 2))) (an' (aa' (pv 0)) ag') (an' (aa' (pv 0)) ag'))))) ac' rfl)))))))
theorem mB':FnScope ["how", "wishes"] ["how", "wishes"] (defScope dc'):=⟨rfl,rfl,rfl,by decide +kernel,rfl,by decide +kernel,by decide +kernel⟩
theorem mC' {f:Addr}{fd:FuncData} (F:Fun K "short_of" "short_of" dc' f fd) {oF' mT'} (dl':Cd P w K mg base 47 oF' mT' ["wishes"] eS' "spare_of") {g9' gu'} (bl':Cd P w K mg base 5 g9' gu' ["wishes"] cV' "roof_of"):FnOk P w K mg base CX0 48 f fd ["how", "wishes"] (spD K cp') :=
 aL' (k:=47) (N:=["how", "wishes"]) F mB' gl' (fun cdv A outer s H E B hr=>aC'
  (af' (aM' (b7' hr (aa' (pv 0)) bu')
  (aj' (ak' (b8' (bk' dl'.G (hr.mono (by decide)) rfl dl'.m dl'.p dl'.b (ab' (aa' (pv 1)) ac' rfl))))) aF')
  (aj' (ak' (b8' (bk' bl'.G (hr.mono (by decide)) rfl bl'.m bl'.p bl'.b (ab' (aa' (pv 1)) ac' rfl)))))))
theorem lO':FnScope ["holds"] ["holds"] (defScope cH'):=⟨rfl,rfl,rfl,by decide +kernel,rfl,by decide +kernel,by decide +kernel⟩
theorem lP' {f:Addr}{fd:FuncData} (F:Fun K "wishes_of" "wishes_of" cH' f fd) :FnOk P w K mg base CX0 2 f fd ["holds"] (spD K bF') :=
 aL' (k:=1) (N:=["holds"]) F lO' fL' (fun cdv A outer s H E B hr=>aC'
  (aj' (ak' (b8' (bn' (N':=["hold", "-holds"]) (m:=1) (CompScope.of (by kernel_rfl)) rfl (az' (aa' (pv 0))) (fun _ _ _ _=>(gd_n (i:=0) (m:=1) (ah' (by kernel_rfl)))) (fun _ _ _ _=>bI') (fun _ _ _ _=>(an' (aa' (pv 0)) ag')))))))
theorem mD':FnScope ["web", "holds", "how", "house", "neighbour"] ["web", "holds", "how", "house", "neighbour"] (defScope dd'):=⟨rfl,rfl,rfl,by decide +kernel,rfl,by decide +kernel,by decide +kernel⟩
theorem mE' {f:Addr}{fd:FuncData} (F:Fun K "table_of" "table_of" dd' f fd) {a7' a3'} (al':Cd P w K mg base 2 a7' a3' ["things"] aE' "must_be_kin") {dz' cZ'} (aR':Cd P w K mg base 2 dz' cZ' ["holds"] bF' "wishes_of") {jJ' i8'} (bL':Cd P w K mg base 4 jJ' i8' ["web", "one", "other"] c9' "must_be_road") {oG' mU'} (dm':Cd P w K mg base 70 oG' mU' ["web", "holds", "how", "house", "neighbour"] (da' 20) "heard_of"):FnOk P w K mg base CX0 71 f fd ["web", "holds", "how", "house", "neighbour"] (spD K eU') :=
 aL' (k:=70) (N:=["web", "holds", "how", "house", "neighbour"]) F mD' gm' (fun cdv A outer s H E B hr=>aC'
  (af' (ak' (c4' (aq' al'.G (hr.mono (by decide)) rfl al'.m al'.p al'.b (ab' (aw' (bk' aR'.G (hr.mono (by decide)) rfl aR'.m aR'.p aR'.b (ab' (aa' (pv 1)) ac' rfl))) ac' rfl))))
  (af' (ak' (c4' (aq' bL'.G (hr.mono (by decide)) rfl bL'.m bL'.p bL'.b (ab' (aa' (pv 0)) (ab' (aa' (pv 3)) (ab' (aa' (pv 4)) ac' rfl) rfl) rfl))))
  (aj' (ak' (b8' (bk' dm'.G (hr.mono (by decide)) rfl dm'.m dm'.p dm'.b (cz' (aa' (pv 0)) (aa' (pv 1)) (aa' (pv 2)) (aa' (pv 3)) (ab' (aa' (pv 4)) ac' rfl) rfl rfl rfl rfl))))))))
theorem mF':FnScope ["web", "holds", "how", "house", "neighbour", "wishes", "other"] ["web", "holds", "how", "house", "neighbour"] (defScope cr'):=⟨rfl,rfl,rfl,by decide +kernel,rfl,by decide +kernel,by decide +kernel⟩
theorem mG' {g:List R->Option (R×List R)}{kk:Nat} (hk:49<=kk){f:Addr}{fd:FuncData} (F:Fun K "heard_of" "heard_of" cr' f fd) (G:FnOk P w K mg base CX0 kk f fd ["web", "holds", "how", "house", "neighbour"] (spD K g)) {dz' cZ'} (aR':Cd P w K mg base 2 dz' cZ' ["holds"] bF' "wishes_of") {b2' bO'} (ax':Cd P w K mg base 3 b2' bO' ["web", "house"] bi' "neighbours_of") {d8' dA'} (aU':Cd P w K mg base 48 d8' dA' ["how", "wishes"] cp' "short_of") (cu':Binds K fd ["web", "holds", "how", "house", "neighbour"] []) (eZ':PySem.W.keepIn K (.ref f)=true) (cv':mg "heard_of"=some (.ref f)):FnOk P w K mg base CX0 (kk+1) f fd ["web", "holds", "how", "house", "neighbour"] (spD K (fnD 7 5 (eT' g))) :=
 aL' (N:=["web", "holds", "how", "house", "neighbour", "wishes", "other"]) F mF' (eT' g) (fun cdv A outer s H E B hr=>aC'
  (af' (ak' (bm' (i:=5) (ah' (by kernel_rfl)) (bk' aR'.G (hr.mono (Nat.le_trans (by decide) hk)) rfl aR'.m aR'.p aR'.b (ab' (aw' (bn' (N':=["hold", "-web", "-holds", "-how", "-house", "neighbour", "-wishes", "-other"]) (m:=1) (CompScope.of (by kernel_rfl)) rfl (az' (aa' (pv 1))) (fun _ _ _ _=>(gd_n (i:=0) (m:=1) (ah' (by kernel_rfl)))) (fun _ _ _ _=>(cD' (b7' hr (an' (aa' (pv 0)) ag') (aa' (pv 5))))) (fun _ _ _ _=>(aa' (pv 0))))) ac' rfl))))
  (af' (aY' PassesOwn.never rfl (az' (aw' (bk' ax'.G (hr.mono (Nat.le_trans (by decide) hk)) rfl ax'.m ax'.p ax'.b (ab' (aa' (pv 0)) (ab' (aa' (pv 4)) ac' rfl) rfl)))) (gd_n (i:=6) (m:=100) (ah' (by kernel_rfl)))
  (aj' (aM' (c6' hr (aa' (pv 6)) (aa' (pv 3)))
  (aj' (ak' (o5' (pv 5) (aw' (bk' G hr rfl cv' eZ' cu' (cz' (aa' (pv 0)) (aa' (pv 1)) (aa' (pv 2)) (aa' (pv 4)) (ab' (aa' (pv 6)) ac' rfl) rfl rfl rfl rfl)))))) aF')))
  (aj' (ak' (b8' (bk' aU'.G (hr.mono (Nat.le_trans (by decide) hk)) rfl aU'.m aU'.p aU'.b (ab' (aa' (pv 2)) (ab' (aa' (pv 5)) ac' rfl) rfl))))))))
theorem h5' {f:Addr}{fd:FuncData} (F:Fun K "heard_of" "heard_of" cr' f fd) {dz' cZ'} (aR':Cd P w K mg base 2 dz' cZ' ["holds"] bF' "wishes_of") {b2' bO'} (ax':Cd P w K mg base 3 b2' bO' ["web", "house"] bi' "neighbours_of") {d8' dA'} (aU':Cd P w K mg base 48 d8' dA' ["how", "wishes"] cp' "short_of") (cu':Binds K fd ["web", "holds", "how", "house", "neighbour"] []) (eZ':PySem.W.keepIn K (.ref f)=true) (cv':mg "heard_of"=some (.ref f)):∀ n:Nat,FnOk P w K mg base CX0 (50+n) f fd ["web", "holds", "how", "house", "neighbour"] (spD K (da' n))
 | 0=>hK'
 | n+1=>mG' (Nat.le_trans (by decide) (Nat.le_add_right _ n)) F (h5' F aR' ax' aU' cu' eZ' cv' n) aR' ax' aU' cu' eZ' cv'
theorem lQ':FnScope ["cell", "at", "one", "two", "three"] ["cell", "at"] (defScope cI'):=⟨rfl,rfl,rfl,by decide +kernel,rfl,by decide +kernel,by decide +kernel⟩
theorem lR' {f:Addr}{fd:FuncData} (F:Fun K "_law_blend" "_law_blend" cI' f fd) :FnOk P w K mg base CX0 2 f fd ["cell", "at"] (spD K dx') :=
 aL' (k:=1) (N:=["cell", "at", "one", "two", "three"]) F lQ' fM' (fun cdv A outer s H E B hr=>aC'
  (af' (aM' (ud' (aa' (pv 0)) (ld' ag' ag'))
  (aj' (ak' (av' (aa' (pv 0))))) aF')
  (af' (ao' (i:=2) (ah' (by kernel_rfl)) (dr' (aI' (aI' (cT' (dr' (aa' (pv 0)) ag') ag') (cT' (aa' (pv 1)) ag')) ag') ag'))
  (af' (ao' (i:=3) (ah' (by kernel_rfl)) (dr' (aI' (aI' (cT' (aa' (pv 2)) (aa' (pv 2))) (cT' (aa' (pv 1)) ag')) (dr' (aa' (pv 0)) ag')) ag'))
  (af' (ao' (i:=4) (ah' (by kernel_rfl)) (dr' (aI' (aI' (cT' (aa' (pv 3)) (aa' (pv 3))) (cT' (aa' (pv 2)) ag')) ag') ag'))
  (aj' (ak' (av' (aI' (cT' (aI' (cT' (aa' (pv 2)) ag') (aa' (pv 3))) ag') (aa' (pv 4)))))))))))
theorem oj':FnScope ["script", "cells", "k", "cell"] ["script"] (defScope dQ'):=⟨rfl,rfl,rfl,by decide +kernel,rfl,by decide +kernel,by decide +kernel⟩
theorem ok' {f:Addr}{fd:FuncData} (F:Fun K "_law_pot" "_law_pot" dQ' f fd) (z_list:mg "list"=none) (z_enumerate:mg "enumerate"=none):FnOk P w K mg base CX0 2 f fd ["script"] (spD K eE') :=
 aL' (k:=1) (N:=["script", "cells", "k", "cell"]) F oj' g1' (fun cdv A outer s H E B hr=>aC'
  (af' (ak' (bm' (i:=1) (ah' (by kernel_rfl)) (jm' rfl z_list (ab' (fx' (aa' (pv 0)) ee' (c7' ag')) ac' rfl))))
  (af' (aY' PassesOwn.never rfl (lk' rfl z_enumerate (ab' (fx' (aa' (pv 0)) (c7' ag') (c7' ag')) ac' rfl)) (bX' (m:=100) rfl (aA' (gd_n (i:=2) (m:=100) (ah' (by kernel_rfl))) (aA' (gd_n (i:=3) (m:=100) (ah' (by kernel_rfl))) bv')))
  (aj' (ak' (kW' (pv 1) (dr' (aa' (pv 2)) ag') (aI' (cy' (pv 1) (dr' (aa' (pv 2)) ag')) (aa' (pv 3)))))))
  (aj' (ak' (b8' (aO' (ab' (aa' (pv 1)) (ab' ag' (ab' ag' ac' rfl) rfl) rfl))))))))
theorem mH':FnScope ["pot", "upto", "at", "cell", "found"] ["pot", "upto"] (defScope de'):=⟨rfl,rfl,rfl,by decide +kernel,rfl,by decide +kernel,by decide +kernel⟩
theorem mI' {f:Addr}{fd:FuncData} (F:Fun K "_law_pick" "_law_pick" de' f fd) {mV' mc'} (cM':Cd P w K mg base 2 mV' mc' ["cell", "at"] dx' "_law_blend") (z_len:mg "len"=none):FnOk P w K mg base CX0 3 f fd ["pot", "upto"] (spD K ap') :=
 aL' (k:=2) (N:=["pot", "upto", "at", "cell", "found"]) F mH' gn' (fun cdv A outer s H E B hr=>aC'
  (af' (aM' (ge' (cy' (pv 0) ag') (aa' (pv 1)))
  (af' (ao' (i:=2) (ah' (by kernel_rfl)) (cy' (pv 0) ag'))
  (af' (ao' (i:=3) (ah' (by kernel_rfl)) (cT' ag' (aa' (pv 2))))
  (af' (aM' (ge' (aa' (pv 2)) (dt' rfl z_len (ab' (cy' (pv 0) ag') ac' rfl)))
  (aj' (ao' (i:=3) (ah' (by kernel_rfl)) (an' (cy' (pv 0) ag') (aa' (pv 2))))) (aj' (aM' (c6' hr (cy' (pv 0) ag') (aw' (aO' ac')))
  (aj' (ao' (i:=3) (ah' (by kernel_rfl)) (dr' (an' (cy' (pv 0) ag') (dr' (aI' (cT' (aa' (pv 2)) ag') ag') (dt' rfl z_len (ab' (cy' (pv 0) ag') ac' rfl)))) (aI' (ld' ag' ag') (cT' ag' (aa' (pv 2))))))) aF')))
  (af' (ak' (kW' (pv 0) ag' (aI' (aa' (pv 2)) ag')))
  (aj' (ak' (kW' (pv 0) ag' (aq' cM'.G (hr.mono (by decide)) rfl cM'.m cM'.p cM'.b (ab' (aa' (pv 3)) (ab' (aa' (pv 2)) ac' rfl) rfl))))))))) aF')
  (af' (ao' (i:=4) (ah' (by kernel_rfl)) (dr' (cy' (pv 0) ag') (aa' (pv 1))))
  (af' (ak' (kW' (pv 0) ag' (th' (cy' (pv 0) ag') (aa' (pv 1)))))
  (aj' (ak' (av' (aa' (pv 4)))))))))
theorem mJ':FnScope ["found", "due"] ["found", "due"] (defScope ct'):=⟨rfl,rfl,rfl,by decide +kernel,rfl,by decide +kernel,by decide +kernel⟩
theorem mK' {g:List R->Option (R×List R)}{kk:Nat} (hk:2<=kk){f:Addr}{fd:FuncData} (F:Fun K "_law_same" "_law_same" ct' f fd) (G:FnOk P w K mg base CX0 kk f fd ["found", "due"] (spD K g)) (z_isinstance:mg "isinstance"=none) (z_bool:mg "bool"=none) (z_str:mg "str"=none) (z_int:mg "int"=none) (z_list:mg "list"=none) (z_tuple:mg "tuple"=none) (z_len:mg "len"=none) (z_zip:mg "zip"=none) (b3':Binds K fd ["found", "due"] []) (e0':PySem.W.keepIn K (.ref f)=true) (b4':mg "_law_same"=some (.ref f)):FnOk P w K mg base CX0 (kk+1) f fd ["found", "due"] (spD K (fnD 2 2 (cq' g))) :=
 aL' (N:=["found", "due"]) F mJ' (cq' g) (fun cdv A outer s H E B hr=>aC'
  (af' (aM' (TW.td (eP' (pd' (aa' (pv 1)) fa') (dX' (pd' (aa' (pv 0)) fa'))))
  (aj' (ak' (av' (ey' (pc' (aa' (pv 1)) fa') (fe' (pc' (aa' (pv 0)) fa')))))) aF')
  (af' (aM' (TW.td (eP' (bW' (et' rfl z_isinstance rfl z_bool (aa' (pv 1)))) (dX' (bW' (et' rfl z_isinstance rfl z_bool (aa' (pv 0)))))))
  (aj' (ak' (av' (ey' (et' rfl z_isinstance rfl z_bool (aa' (pv 1))) (ey' (et' rfl z_isinstance rfl z_bool (aa' (pv 0))) (fe' (iK' hr (aa' (pv 0)) (aa' (pv 1))))))))) aF')
  (af' (aM' (TW.td (eP' (bW' (gf' rfl z_isinstance rfl z_int (aa' (pv 1)))) (dX' (bW' (n6' rfl z_isinstance rfl z_str (aa' (pv 1)))))))
  (aj' (ak' (av' (ey' (iK' hr (gf' rfl z_isinstance rfl z_int (aa' (pv 0))) (gf' rfl z_isinstance rfl z_int (aa' (pv 1)))) (fe' (iK' hr (aa' (pv 0)) (aa' (pv 1)))))))) aF')
  (af' (aM' (TW.td (eP' (c6' hr (gO' rfl z_isinstance rfl z_tuple (aa' (pv 1))) (gO' rfl z_isinstance rfl z_tuple (aa' (pv 0)))) (dX' (c6' hr (h0' rfl z_isinstance rfl z_list (aa' (pv 1))) (h0' rfl z_isinstance rfl z_list (aa' (pv 0)))))))
  (aj' (ak' (av' dC'))) aF')
  (af' (aM' (c6' hr (dt' rfl z_len (ab' (aa' (pv 0)) ac' rfl)) (dt' rfl z_len (ab' (aa' (pv 1)) ac' rfl)))
  (aj' (ak' (av' dC'))) aF')
  (aj' (ak' (av' (ti' hr dC' (aw' (bn' (N':=["one", "other", "-found", "-due"]) (m:=2) (CompScope.of (by kernel_rfl)) rfl (hJ' rfl z_zip (ab' (aa' (pv 0)) (ab' (aa' (pv 1)) ac' rfl) rfl)) (fun _ _ _ _=>(bX' (m:=2) rfl (aA' (gd_n (i:=0) (m:=2) (ah' (by kernel_rfl))) (aA' (gd_n (i:=1) (m:=2) (ah' (by kernel_rfl))) bv')))) (fun _ _ _ _=>bI') (fun _ _ _ _=>(aq' G hr rfl b4' e0' b3' (ab' (aa' (pv 0)) (ab' (aa' (pv 1)) ac' rfl) rfl)))))))))))))))
theorem h6' {f:Addr}{fd:FuncData} (F:Fun K "_law_same" "_law_same" ct' f fd) (z_isinstance:mg "isinstance"=none) (z_bool:mg "bool"=none) (z_str:mg "str"=none) (z_int:mg "int"=none) (z_list:mg "list"=none) (z_tuple:mg "tuple"=none) (z_len:mg "len"=none) (z_zip:mg "zip"=none) (b3':Binds K fd ["found", "due"] []) (e0':PySem.W.keepIn K (.ref f)=true) (b4':mg "_law_same"=some (.ref f)):∀ n:Nat,FnOk P w K mg base CX0 (3+n) f fd ["found", "due"] (spD K (a6' n))
 | 0=>hK'
 | n+1=>mK' (Nat.le_trans (by decide) (Nat.le_add_right _ n)) F (h6' F z_isinstance z_bool z_str z_int z_list z_tuple z_len z_zip b3' e0' b4' n) z_isinstance z_bool z_str z_int z_list z_tuple z_len z_zip b3' e0' b4'
theorem mL':FnScope ["pot", "fields", "low", "top", "pairs", "k", "one", "other"] ["pot", "fields", "low", "top"] (defScope df'):=⟨rfl,rfl,rfl,by decide +kernel,rfl,by decide +kernel,by decide +kernel⟩
theorem mM' {f:Addr}{fd:FuncData} (F:Fun K "_law_wish" "_law_wish" df' f fd) {bj' a5'} (ad':Cd P w K mg base 3 bj' a5' ["pot", "upto"] ap' "_law_pick") (z_range:mg "range"=none) (z_min:mg "min"=none) (z_max:mg "max"=none) (z_tuple:mg "tuple"=none):FnOk P w K mg base CX0 4 f fd ["pot", "fields", "low", "top"] (spD K eV') :=
 aL' (k:=3) (N:=["pot", "fields", "low", "top", "pairs", "k", "one", "other"]) F mL' go' (fun cdv A outer s H E B hr=>aC'
  (af' (ak' (bm' (i:=4) (ah' (by kernel_rfl)) (aO' ac')))
  (af' (aY' PassesOwn.never rfl (ff' rfl z_range (ab' (aa' (pv 1)) ac' rfl)) (gd_n (i:=5) (m:=100) (ah' (by kernel_rfl)))
  (af' (ao' (i:=6) (ah' (by kernel_rfl)) (aI' (aa' (pv 2)) (aH' ad'.G (hr.mono (by decide)) rfl ad'.m ad'.p ad'.b (pv 0) (ab' (aa' (pv 3)) ac' rfl))))
  (af' (ao' (i:=7) (ah' (by kernel_rfl)) (aI' (aa' (pv 2)) (aH' ad'.G (hr.mono (by decide)) rfl ad'.m ad'.p ad'.b (pv 0) (ab' (aa' (pv 3)) ac' rfl))))
  (aj' (ak' (cx' (pv 4) (aN' (ab' (f5' rfl rfl z_min (ab' (aa' (pv 6)) (ab' (aa' (pv 7)) ac' rfl) rfl)) (ab' (gM' rfl rfl z_max (ab' (aa' (pv 6)) (ab' (aa' (pv 7)) ac' rfl) rfl)) ac' rfl) rfl))))))))
  (aj' (ak' (av' (ef' rfl z_tuple (ab' (aa' (pv 4)) ac' rfl))))))))
theorem kB':FnScope ["pot", "fields", "most", "top", "low", "found", "k", "way", "wish"] ["pot", "fields", "most"] (defScope ca'):=⟨rfl,rfl,rfl,by decide +kernel,rfl,by decide +kernel,by decide +kernel⟩
theorem kC' {f:Addr}{fd:FuncData} (F:Fun K "_law_wishes" "_law_wishes" ca' f fd) {bj' a5'} (ad':Cd P w K mg base 3 bj' a5' ["pot", "upto"] ap' "_law_pick") {oH' mW'} (dn':Cd P w K mg base 4 oH' mW' ["pot", "fields", "low", "top"] eV' "_law_wish") {md' kL'} (cf':Cd P w K mg base 4 md' kL' ["pot", "wish"] d0' "_law_nudged") (z_min:mg "min"=none) (z_range:mg "range"=none) (z_len:mg "len"=none):FnOk P w K mg base CX0 5 f fd ["pot", "fields", "most"] (spD K d1') :=
 aL' (k:=4) (N:=["pot", "fields", "most", "top", "low", "found", "k", "way", "wish"]) F kB' fj' (fun cdv A outer s H E B hr=>aC'
  (af' (ao' (i:=3) (ah' (by kernel_rfl)) (f5' rfl rfl z_min (ab' (an' (aw' (aO' (ad_k (by kernel_rfl)))) (aH' ad'.G (hr.mono (by decide)) rfl ad'.m ad'.p ad'.b (pv 0) (ab' ag' ac' rfl))) (ab' (an' (aw' (aO' (ad_k (by kernel_rfl)))) (aa' (pv 1))) ac' rfl) rfl)))
  (af' (ao' (i:=4) (ah' (by kernel_rfl)) (aH' ad'.G (hr.mono (by decide)) rfl ad'.m ad'.p ad'.b (pv 0) (ab' (f4' ag' (aa' (pv 3))) ac' rfl)))
  (af' (ak' (bm' (i:=5) (ah' (by kernel_rfl)) (aO' ac')))
  (af' (aY' PassesOwn.never rfl (ff' rfl z_range (ab' (aH' ad'.G (hr.mono (by decide)) rfl ad'.m ad'.p ad'.b (pv 0) (ab' (aI' (aa' (pv 2)) ag') ac' rfl)) ac' rfl)) (gd_n (i:=6) (m:=100) (ah' (by kernel_rfl)))
  (af' (ao' (i:=7) (ah' (by kernel_rfl)) (aH' ad'.G (hr.mono (by decide)) rfl ad'.m ad'.p ad'.b (pv 0) (ab' ag' ac' rfl)))
  (af' (ao' (i:=8) (ah' (by kernel_rfl)) (aH' dn'.G (hr.mono (by decide)) rfl dn'.m dn'.p dn'.b (pv 0) (ab' (aa' (pv 1)) (ab' (aa' (pv 4)) (ab' (aa' (pv 3)) ac' rfl) rfl) rfl)))
  (af' (aM' (TW.td (fc' (b7' hr (aa' (pv 7)) ag') (eb' (lf' hr (pv 5) (aw' (aO' ac'))))))
  (aj' (ao' (i:=8) (ah' (by kernel_rfl)) (cy' (pv 5) (aH' ad'.G (hr.mono (by decide)) rfl ad'.m ad'.p ad'.b (pv 0) (ab' (jl' rfl z_len (pv 5)) ac' rfl))))) aF')
  (af' (aM' (TW.td (fc' (b7' hr (aa' (pv 7)) ag') (eb' (lf' hr (pv 5) (aw' (aO' ac'))))))
  (aj' (ao' (i:=8) (ah' (by kernel_rfl)) (aH' cf'.G (hr.mono (by decide)) rfl cf'.m cf'.p cf'.b (pv 0) (ab' (cy' (pv 5) (aH' ad'.G (hr.mono (by decide)) rfl ad'.m ad'.p ad'.b (pv 0) (ab' (jl' rfl z_len (pv 5)) ac' rfl))) ac' rfl)))) aF')
  (aj' (ak' (cx' (pv 5) (aa' (pv 8))))))))))
  (aj' (ak' (av' (aa' (pv 5))))))))))
theorem kD':FnScope ["pot", "wish", "at", "low", "high", "pair"] ["pot", "wish"] (defScope cb'):=⟨rfl,rfl,rfl,by decide +kernel,rfl,by decide +kernel,by decide +kernel⟩
theorem kE' {f:Addr}{fd:FuncData} (F:Fun K "_law_nudged" "_law_nudged" cb' f fd) {bj' a5'} (ad':Cd P w K mg base 3 bj' a5' ["pot", "upto"] ap' "_law_pick") (z_len:mg "len"=none) (z_max:mg "max"=none) (z_min:mg "min"=none):FnOk P w K mg base CX0 4 f fd ["pot", "wish"] (spD K d0') :=
 aL' (k:=3) (N:=["pot", "wish", "at", "low", "high", "pair"]) F kD' fi' (fun cdv A outer s H E B hr=>aC'
  (af' (ao' (i:=2) (ah' (by kernel_rfl)) (aH' ad'.G (hr.mono (by decide)) rfl ad'.m ad'.p ad'.b (pv 0) (ab' (dt' rfl z_len (ab' (aa' (pv 1)) ac' rfl)) ac' rfl)))
  (af' (ak' (ta' (an' (aa' (pv 1)) (aa' (pv 2))) (bX' (m:=100) rfl (aA' (gd_n (i:=3) (m:=100) (ah' (by kernel_rfl))) (aA' (gd_n (i:=4) (m:=100) (ah' (by kernel_rfl))) bv')))))
  (af' (ao' (i:=5) (ah' (by kernel_rfl)) (aw' (aO' (cz' (aN' (ab' (gM' rfl rfl z_max (ab' ag' (ab' (f4' (aa' (pv 3)) ag') ac' rfl) rfl)) (ab' (aa' (pv 4)) ac' rfl) rfl)) (aN' (ab' (aa' (pv 3)) (ab' (f5' rfl rfl z_min (ab' ag' (ab' (aI' (aa' (pv 4)) ag') ac' rfl) rfl)) ac' rfl) rfl)) (aN' (ab' (f5' rfl rfl z_min (ab' (aI' (aa' (pv 3)) ag') (ab' (aa' (pv 4)) ac' rfl) rfl)) (ab' (aa' (pv 4)) ac' rfl) rfl)) (aN' (ab' (aa' (pv 3)) (ab' (gM' rfl rfl z_max (ab' (aa' (pv 3)) (ab' (f4' (aa' (pv 4)) ag') ac' rfl) rfl)) ac' rfl) rfl)) ac' rfl rfl rfl rfl))))
  (aj' (ak' (av' (aI' (aI' (fx' (aa' (pv 1)) ee' (c7' (aa' (pv 2)))) (aN' (ab' (an' (aa' (pv 5)) (aH' ad'.G (hr.mono (by decide)) rfl ad'.m ad'.p ad'.b (pv 0) (ab' ag' ac' rfl))) ac' rfl))) (fx' (aa' (pv 1)) (c7' (aI' (aa' (pv 2)) ag')) ee')))))))))
theorem ol':FnScope ["wish", "letter"] ["wish", "letter"] (defScope dR'):=⟨rfl,rfl,rfl,by decide +kernel,rfl,by decide +kernel,by decide +kernel⟩
theorem om' {f:Addr}{fd:FuncData} (F:Fun K "_law_has" "_law_has" dR' f fd) (z_zip:mg "zip"=none):FnOk P w K mg base CX0 2 f fd ["wish", "letter"] (spD K cW') :=
 aL' (k:=1) (N:=["wish", "letter"]) F ol' g2' (fun cdv A outer s H E B hr=>aC'
  (aj' (ak' (av' (iK' hr (aw' (bn' (N':=["number", "pair", "-wish", "-letter"]) (m:=2) (CompScope.of (by kernel_rfl)) rfl (hJ' rfl z_zip (ab' (aa' (pv 1)) (ab' (aa' (pv 0)) ac' rfl) rfl)) (fun _ _ _ _=>(bX' (m:=2) rfl (aA' (gd_n (i:=0) (m:=2) (ah' (by kernel_rfl))) (aA' (gd_n (i:=1) (m:=2) (ah' (by kernel_rfl))) bv')))) (fun _ _ _ _=>(cD' (TW.td (eP' (ge' (aa' (pv 0)) (an' (aa' (pv 1)) ag')) (dX' (n2' (aa' (pv 0)) (an' (aa' (pv 1)) ag'))))))) (fun _ _ _ _=>ag'))) (aw' (aO' ac')))))))
theorem jx':FnScope ["wish", "found", "low", "high", "longer", "letter"] ["wish"] (defScope bR'):=⟨rfl,rfl,rfl,by decide +kernel,rfl,by decide +kernel,by decide +kernel⟩
theorem jy' {f:Addr}{fd:FuncData} (F:Fun K "_law_letters" "_law_letters" bR' f fd) (z_range:mg "range"=none):FnOk P w K mg base CX0 2 f fd ["wish"] (spD K dD') :=
 aL' (k:=1) (N:=["wish", "found", "low", "high", "longer", "letter"]) F jx' eJ' (fun cdv A outer s H E B hr=>aC'
  (af' (ao' (i:=1) (ah' (by kernel_rfl)) (aw' (aO' (ab' (aN' ac') ac' rfl))))
  (af' (aY' PassesOwn.never rfl (az' (aa' (pv 0))) (bX' (m:=100) rfl (aA' (gd_n (i:=2) (m:=100) (ah' (by kernel_rfl))) (aA' (gd_n (i:=3) (m:=100) (ah' (by kernel_rfl))) bv')))
  (af' (ak' (bm' (i:=4) (ah' (by kernel_rfl)) (aO' ac')))
  (af' (aY' PassesOwn.never rfl (az' (aa' (pv 1))) (gd_n (i:=5) (m:=100) (ah' (by kernel_rfl)))
  (aj' (ak' (o5' (pv 4) (aw' (bn' (N':=["number", "-wish", "-found", "-low", "-high", "-longer", "letter"]) (m:=1) (CompScope.of (by kernel_rfl)) rfl (k8' rfl z_range (ab' (aa' (pv 2)) (ab' (aI' (aa' (pv 3)) ag') ac' rfl) rfl)) (fun _ _ _ _=>(gd_n (i:=0) (m:=1) (ah' (by kernel_rfl)))) (fun _ _ _ _=>bI') (fun _ _ _ _=>(aI' (aa' (pv 6)) (aN' (ab' (aa' (pv 0)) ac' rfl))))))))))
  (aj' (ao' (i:=1) (ah' (by kernel_rfl)) (aa' (pv 4)))))))
  (aj' (ak' (av' (aa' (pv 1))))))))
theorem kF':FnScope ["one", "other", "first", "last"] ["one", "other"] (defScope cc'):=⟨rfl,rfl,rfl,by decide +kernel,rfl,by decide +kernel,by decide +kernel⟩
theorem kG' {f:Addr}{fd:FuncData} (F:Fun K "_law_covers" "_law_covers" cc' f fd) {hf' gv'} (aV':Cd P w K mg base 2 hf' gv' ["wish", "letter"] cW' "_law_has") (z_tuple:mg "tuple"=none):FnOk P w K mg base CX0 3 f fd ["one", "other"] (spD K d2') :=
 aL' (k:=2) (N:=["one", "other", "first", "last"]) F kF' fk' (fun cdv A outer s H E B hr=>aC'
  (af' (ao' (i:=2) (ah' (by kernel_rfl)) (ef' rfl z_tuple (ab' (aw' (bn' (N':=["pair", "-one", "-other", "-first", "-last"]) (m:=1) (CompScope.of (by kernel_rfl)) rfl (az' (aa' (pv 1))) (fun _ _ _ _=>(gd_n (i:=0) (m:=1) (ah' (by kernel_rfl)))) (fun _ _ _ _=>bI') (fun _ _ _ _=>(an' (aa' (pv 0)) ag')))) ac' rfl)))
  (af' (ao' (i:=3) (ah' (by kernel_rfl)) (ef' rfl z_tuple (ab' (aw' (bn' (N':=["pair", "-one", "-other", "-first", "-last"]) (m:=1) (CompScope.of (by kernel_rfl)) rfl (az' (aa' (pv 1))) (fun _ _ _ _=>(gd_n (i:=0) (m:=1) (ah' (by kernel_rfl)))) (fun _ _ _ _=>bI') (fun _ _ _ _=>(an' (aa' (pv 0)) ag')))) ac' rfl)))
  (aj' (ak' (av' (ey' (aq' aV'.G (hr.mono (by decide)) rfl aV'.m aV'.p aV'.b (ab' (aa' (pv 0)) (ab' (aa' (pv 2)) ac' rfl) rfl)) (fe' (aq' aV'.G (hr.mono (by decide)) rfl aV'.m aV'.p aV'.b (ab' (aa' (pv 0)) (ab' (aa' (pv 3)) ac' rfl) rfl))))))))))
theorem mN':FnScope ["wishes", "found", "wish", "over"] ["wishes"] (defScope dg'):=⟨rfl,rfl,rfl,by decide +kernel,rfl,by decide +kernel,by decide +kernel⟩
theorem mO' {f:Addr}{fd:FuncData} (F:Fun K "_law_roof" "_law_roof" dg' f fd) {me' kM'} (cg':Cd P w K mg base 3 me' kM' ["one", "other"] d2' "_law_covers") (z_sorted:mg "sorted"=none):FnOk P w K mg base CX0 4 f fd ["wishes"] (spD K bE') :=
 aL' (k:=3) (N:=["wishes", "found", "wish", "over"]) F mN' gp' (fun cdv A outer s H E B hr=>aC'
  (af' (ak' (bm' (i:=1) (ah' (by kernel_rfl)) (aO' ac')))
  (af' (aY' PassesOwn.never rfl (az' (aw' (eC' hr rfl z_sorted (ab' (aa' (pv 0)) ac' rfl)))) (gd_n (i:=2) (m:=100) (ah' (by kernel_rfl)))
  (af' (ak' (b6' (i:=3) (N':=["one", "-wishes", "-found", "wish", "-over"]) (m:=1) (CompScope.of (by kernel_rfl)) rfl (ah' (by kernel_rfl)) (az' (aa' (pv 0))) (fun _ _ _ _=>(gd_n (i:=0) (m:=1) (ah' (by kernel_rfl)))) (fun _ _ _ _=>(cD' (TW.td (fc' (c6' hr (aa' (pv 0)) (aa' (pv 3))) (eb' (bW' (aq' cg'.G (hr.mono (by decide)) rfl cg'.m cg'.p cg'.b (ab' (aa' (pv 0)) (ab' (aa' (pv 3)) ac' rfl) rfl)))))))) (fun _ _ _ _=>(aa' (pv 0)))))
  (aj' (aM' (TW.td (fc' (b7' hr (aa' (pv 3)) (aw' (aO' ac'))) (eb' (nt' hr (aa' (pv 2)) (pv 1)))))
  (aj' (ak' (cx' (pv 1) (aa' (pv 2))))) aF'))))
  (aj' (ak' (av' (aa' (pv 1))))))))
theorem on':FnScope ["pot", "most", "many", "way", "order", "names", "roads", "k", "ahead", "pair"] ["pot", "most"] (defScope dS'):=⟨rfl,rfl,rfl,by decide +kernel,rfl,by decide +kernel,by decide +kernel⟩
theorem oo' {f:Addr}{fd:FuncData} (F:Fun K "_law_web" "_law_web" dS' f fd) {bj' a5'} (ad':Cd P w K mg base 3 bj' a5' ["pot", "upto"] ap' "_law_pick") (z_list:mg "list"=none) (z_range:mg "range"=none) (z_len:mg "len"=none) (z_min:mg "min"=none) (z_max:mg "max"=none) (z_sorted:mg "sorted"=none) (z_tuple:mg "tuple"=none):FnOk P w K mg base CX0 4 f fd ["pot", "most"] (spD K eF') :=
 aL' (k:=3) (N:=["pot", "most", "many", "way", "order", "names", "roads", "k", "ahead", "pair"]) F on' g3' (fun cdv A outer s H E B hr=>aC'
  (af' (ao' (i:=2) (ah' (by kernel_rfl)) (aI' ag' (aH' ad'.G (hr.mono (by decide)) rfl ad'.m ad'.p ad'.b (pv 0) (ab' (aa' (pv 1)) ac' rfl))))
  (af' (ao' (i:=3) (ah' (by kernel_rfl)) (aH' ad'.G (hr.mono (by decide)) rfl ad'.m ad'.p ad'.b (pv 0) (ab' ag' ac' rfl)))
  (af' (ak' (bm' (i:=4) (ah' (by kernel_rfl)) (gP' rfl rfl z_list rfl z_range (ab' (aa' (pv 2)) ac' rfl))))
  (af' (ak' (b6' (i:=5) (N':=["k", "pot", "-most", "-many", "-way", "order", "-names", "-roads", "-k", "-ahead", "-pair"]) (m:=1) (CompScope.of (by kernel_rfl)) rfl (ah' (by kernel_rfl)) (ff' rfl z_range (ab' (aa' (pv 2)) ac' rfl)) (fun _ _ _ _=>(gd_n (i:=0) (m:=1) (ah' (by kernel_rfl)))) (fun _ _ _ _=>bI') (fun _ _ _ _=>(qW' (pv 5) (ab' (aH' ad'.G (hr.mono (by decide)) rfl ad'.m ad'.p ad'.b (pv 1) (ab' (jl' rfl z_len (pv 5)) ac' rfl)) ac' rfl)))))
  (af' (ak' (bm' (i:=6) (ah' (by kernel_rfl)) (aO' ac')))
  (af' (aY' PassesOwn.never rfl (k8' rfl z_range (ab' ag' (ab' (aa' (pv 2)) ac' rfl) rfl)) (gd_n (i:=7) (m:=100) (ah' (by kernel_rfl)))
  (af' (ao' (i:=8) (ah' (by kernel_rfl)) (an' (aw' (aO' (cz' (f4' (aa' (pv 7)) ag') ag' (aH' ad'.G (hr.mono (by decide)) rfl ad'.m ad'.p ad'.b (pv 0) (ab' (aa' (pv 7)) ac' rfl)) (aH' ad'.G (hr.mono (by decide)) rfl ad'.m ad'.p ad'.b (pv 0) (ab' (aa' (pv 7)) ac' rfl)) ac' rfl rfl rfl rfl))) (aa' (pv 3))))
  (af' (ao' (i:=9) (ah' (by kernel_rfl)) (aN' (ab' (f5' rfl rfl z_min (ab' (an' (aa' (pv 5)) (aa' (pv 7))) (ab' (an' (aa' (pv 5)) (aa' (pv 8))) ac' rfl) rfl)) (ab' (gM' rfl rfl z_max (ab' (an' (aa' (pv 5)) (aa' (pv 7))) (ab' (an' (aa' (pv 5)) (aa' (pv 8))) ac' rfl) rfl)) ac' rfl) rfl)))
  (aj' (aM' (TW.td (eP' (ge' (aa' (pv 3)) ag') (dX' (n2' (aH' ad'.G (hr.mono (by decide)) rfl ad'.m ad'.p ad'.b (pv 0) (ab' ag' ac' rfl)) ag'))))
  (aj' (ak' (cx' (pv 6) (aa' (pv 9))))) aF')))))
  (aj' (ak' (av' (aN' (ab' (aa' (pv 2)) (ab' (ef' rfl z_tuple (ab' (aw' (eC' hr rfl z_sorted (ab' (aa' (pv 6)) ac' rfl))) ac' rfl)) ac' rfl) rfl))))))))))))
theorem kH':FnScope ["web", "house", "found", "one", "other"] ["web", "house"] (defScope cd'):=⟨rfl,rfl,rfl,by decide +kernel,rfl,by decide +kernel,by decide +kernel⟩
theorem kI' {f:Addr}{fd:FuncData} (F:Fun K "_law_beside" "_law_beside" cd' f fd) (z_sorted:mg "sorted"=none):FnOk P w K mg base CX0 2 f fd ["web", "house"] (spD K bM') :=
 aL' (k:=1) (N:=["web", "house", "found", "one", "other"]) F kH' fl' (fun cdv A outer s H E B hr=>aC'
  (af' (ak' (bm' (i:=2) (ah' (by kernel_rfl)) (aO' ac')))
  (af' (aY' PassesOwn.never rfl (az' (an' (aa' (pv 0)) ag')) (bX' (m:=100) rfl (aA' (gd_n (i:=3) (m:=100) (ah' (by kernel_rfl))) (aA' (gd_n (i:=4) (m:=100) (ah' (by kernel_rfl))) bv')))
  (af' (aM' (b7' hr (aa' (pv 3)) (aa' (pv 1)))
  (aj' (ak' (cx' (pv 2) (aa' (pv 4))))) aF')
  (aj' (aM' (b7' hr (aa' (pv 4)) (aa' (pv 1)))
  (aj' (ak' (cx' (pv 2) (aa' (pv 3))))) aF'))))
  (aj' (ak' (b8' (eC' hr rfl z_sorted (ab' (aa' (pv 2)) ac' rfl))))))))
theorem kJ':FnScope ["web", "house", "neighbour", "found", "fresh", "here", "there"] ["web", "house", "neighbour"] (defScope ce'):=⟨rfl,rfl,rfl,by decide +kernel,rfl,by decide +kernel,by decide +kernel⟩
theorem kK' {f:Addr}{fd:FuncData} (F:Fun K "_law_behind" "_law_behind" ce' f fd) {c0' cA'} (aK':Cd P w K mg base 2 c0' cA' ["web", "house"] bM' "_law_beside") (z_sorted:mg "sorted"=none):FnOk P w K mg base CX0 3 f fd ["web", "house", "neighbour"] (spD K cX') :=
 aL' (k:=2) (N:=["web", "house", "neighbour", "found", "fresh", "here", "there"]) F kJ' fm' (fun cdv A outer s H E B hr=>aC'
  (af' (ak' (bm' (i:=3) (ah' (by kernel_rfl)) (aO' (ab' (aa' (pv 2)) ac' rfl))))
  (af' (ak' (bm' (i:=4) (ah' (by kernel_rfl)) (aO' (ab' (aa' (pv 2)) ac' rfl))))
  (af' (lD' PassesOwn.never (lf' hr (pv 4) (aw' (aO' ac')))
  (af' (ao' (i:=5) (ah' (by kernel_rfl)) (tz' (pv 4)))
  (aj' (aY' PassesOwn.never rfl (az' (aw' (bk' aK'.G (hr.mono (by decide)) rfl aK'.m aK'.p aK'.b (ab' (aa' (pv 0)) (ab' (aa' (pv 5)) ac' rfl) rfl)))) (gd_n (i:=6) (m:=100) (ah' (by kernel_rfl)))
  (aj' (aM' (TW.td (fc' (c6' hr (aa' (pv 6)) (aa' (pv 1))) (eb' (nt' hr (aa' (pv 6)) (pv 3)))))
  (af' (ak' (cx' (pv 3) (aa' (pv 6))))
  (aj' (ak' (cx' (pv 4) (aa' (pv 6)))))) aF'))))))
  (aj' (ak' (b8' (eC' hr rfl z_sorted (ab' (aa' (pv 3)) ac' rfl)))))))))
theorem lS':FnScope ["pot", "web", "fields", "most", "some"] ["pot", "web", "fields", "most"] (defScope cJ'):=⟨rfl,rfl,rfl,by decide +kernel,rfl,by decide +kernel,by decide +kernel⟩
theorem lT' {f:Addr}{fd:FuncData} (F:Fun K "_law_holds" "_law_holds" cJ' f fd) {mf' kN'} (ch':Cd P w K mg base 5 mf' kN' ["pot", "fields", "most"] d1' "_law_wishes") {bj' a5'} (ad':Cd P w K mg base 3 bj' a5' ["pot", "upto"] ap' "_law_pick"):FnOk P w K mg base CX0 6 f fd ["pot", "web", "fields", "most"] (spD K eu') :=
 aL' (k:=5) (N:=["pot", "web", "fields", "most", "some"]) F lS' fN' (fun cdv A outer s H E B hr=>aC'
  (af' (ao' (i:=4) (ah' (by kernel_rfl)) (aH' ch'.G (hr.mono (by decide)) rfl ch'.m ch'.p ch'.b (pv 0) (ab' (aa' (pv 2)) (ab' (aa' (pv 3)) ac' rfl) rfl)))
  (aj' (ak' (b8' (bn' (N':=["wish", "pot", "web", "-fields", "-most", "-some"]) (m:=1) (CompScope.of (by kernel_rfl)) rfl (az' (aa' (pv 4))) (fun _ _ _ _=>(gd_n (i:=0) (m:=1) (ah' (by kernel_rfl)))) (fun _ _ _ _=>bI') (fun _ _ _ _=>(aN' (ab' (aH' ad'.G (hr.mono (by decide)) rfl ad'.m ad'.p ad'.b (pv 1) (ab' (an' (aa' (pv 2)) ag') ac' rfl)) (ab' (aa' (pv 0)) ac' rfl) rfl)))))))))
theorem jz':FnScope ["wishes", "wish", "letter"] ["wishes", "wish"] (defScope bS'):=⟨rfl,rfl,rfl,by decide +kernel,rfl,by decide +kernel,by decide +kernel⟩
theorem jA' {f:Addr}{fd:FuncData} (F:Fun K "_law_all_had" "_law_all_had" bS' f fd) {kO' jK'} (bT':Cd P w K mg base 2 kO' jK' ["wish"] dD' "_law_letters") {hf' gv'} (aV':Cd P w K mg base 2 hf' gv' ["wish", "letter"] cW' "_law_has"):FnOk P w K mg base CX0 3 f fd ["wishes", "wish"] (spD K dE') :=
 aL' (k:=2) (N:=["wishes", "wish", "letter"]) F jz' eK' (fun cdv A outer s H E B hr=>aC'
  (af' (aY' PassesOwn.never rfl (az' (aq' bT'.G (hr.mono (by decide)) rfl bT'.m bT'.p bT'.b (ab' (aa' (pv 1)) ac' rfl))) (gd_n (i:=2) (m:=100) (ah' (by kernel_rfl)))
  (aj' (aM' (b7' hr (aw' (bn' (N':=["one", "-wishes", "-wish", "letter"]) (m:=1) (CompScope.of (by kernel_rfl)) rfl (az' (aa' (pv 0))) (fun _ _ _ _=>(gd_n (i:=0) (m:=1) (ah' (by kernel_rfl)))) (fun _ _ _ _=>(cD' (bW' (aq' aV'.G (hr.mono (by decide)) rfl aV'.m aV'.p aV'.b (ab' (aa' (pv 0)) (ab' (aa' (pv 3)) ac' rfl) rfl))))) (fun _ _ _ _=>ag'))) (aw' (aO' ac')))
  (aj' (ak' (av' dC'))) aF')))
  (aj' (ak' (av' dC')))))
theorem lU':FnScope ["how", "wishes", "found", "at", "others"] ["how", "wishes"] (defScope cK'):=⟨rfl,rfl,rfl,by decide +kernel,rfl,by decide +kernel,by decide +kernel⟩
theorem lV' {f:Addr}{fd:FuncData} (F:Fun K "_law_short" "_law_short" cK' f fd) {gw' fT'} (a8':Cd P w K mg base 4 gw' fT' ["wishes"] bE' "_law_roof") {kP' jL'} (bU':Cd P w K mg base 3 kP' jL' ["wishes", "wish"] dE' "_law_all_had") (z_len:mg "len"=none):FnOk P w K mg base CX0 5 f fd ["how", "wishes"] (spD K bG') :=
 aL' (k:=4) (N:=["how", "wishes", "found", "at", "others"]) F lU' fO' (fun cdv A outer s H E B hr=>aC'
  (af' (ao' (i:=2) (ah' (by kernel_rfl)) (aq' a8'.G (hr.mono (by decide)) rfl a8'.m a8'.p a8'.b (ab' (aa' (pv 1)) ac' rfl)))
  (af' (ao' (i:=3) (ah' (by kernel_rfl)) ag')
  (af' (lD' PassesOwn.never (TW.td (fc' (b7' hr (aa' (pv 0)) bu') (eb' (ge' (aa' (pv 3)) (dt' rfl z_len (ab' (aa' (pv 2)) ac' rfl))))))
  (af' (ao' (i:=4) (ah' (by kernel_rfl)) (aw' (le' (fx' (aa' (pv 2)) ee' (c7' (aa' (pv 3)))) (fx' (aa' (pv 2)) (c7' (aI' (aa' (pv 3)) ag')) ee'))))
  (aj' (aM' (bW' (aq' bU'.G (hr.mono (by decide)) rfl bU'.m bU'.p bU'.b (ab' (aa' (pv 4)) (ab' (an' (aa' (pv 2)) (aa' (pv 3))) ac' rfl) rfl)))
  (aj' (ao' (i:=2) (ah' (by kernel_rfl)) (aa' (pv 4)))) (aj' (ao' (i:=3) (ah' (by kernel_rfl)) (aI' (aa' (pv 3)) ag')))))))
  (aj' (ak' (av' (aa' (pv 2)))))))))
theorem jB':FnScope ["web", "holds", "how", "house", "neighbour", "some", "other"] ["web", "holds", "how", "house", "neighbour"] (defScope by'):=⟨rfl,rfl,rfl,by decide +kernel,rfl,by decide +kernel,by decide +kernel⟩
theorem jC' {g:List R->Option (R×List R)}{kk:Nat} (hk:6<=kk){f:Addr}{fd:FuncData} (F:Fun K "_law_told_by" "_law_told_by" by' f fd) (G:FnOk P w K mg base CX0 kk f fd ["web", "holds", "how", "house", "neighbour"] (spD K g)) {c0' cA'} (aK':Cd P w K mg base 2 c0' cA' ["web", "house"] bM' "_law_beside") {dB' c1'} (aS':Cd P w K mg base 5 dB' c1' ["how", "wishes"] bG' "_law_short") (bA':Binds K fd ["web", "holds", "how", "house", "neighbour"] []) (dG':PySem.W.keepIn K (.ref f)=true) (bB':mg "_law_told_by"=some (.ref f)):FnOk P w K mg base CX0 (kk+1) f fd ["web", "holds", "how", "house", "neighbour"] (spD K (fnD 7 5 (dF' g))) :=
 aL' (N:=["web", "holds", "how", "house", "neighbour", "some", "other"]) F jB' (dF' g) (fun cdv A outer s H E B hr=>aC'
  (af' (ak' (b6' (i:=5) (N':=["at", "wish", "-web", "-holds", "-how", "house", "-neighbour", "-some", "-other"]) (m:=2) (CompScope.of (by kernel_rfl)) rfl (ah' (by kernel_rfl)) (az' (aa' (pv 1))) (fun _ _ _ _=>(bX' (m:=2) rfl (aA' (gd_n (i:=0) (m:=2) (ah' (by kernel_rfl))) (aA' (gd_n (i:=1) (m:=2) (ah' (by kernel_rfl))) bv')))) (fun _ _ _ _=>(cD' (b7' hr (aa' (pv 0)) (aa' (pv 5))))) (fun _ _ _ _=>(aa' (pv 1)))))
  (af' (aY' PassesOwn.never rfl (az' (aw' (bk' aK'.G (hr.mono (Nat.le_trans (by decide) hk)) rfl aK'.m aK'.p aK'.b (ab' (aa' (pv 0)) (ab' (aa' (pv 3)) ac' rfl) rfl)))) (gd_n (i:=6) (m:=100) (ah' (by kernel_rfl)))
  (aj' (aM' (c6' hr (aa' (pv 6)) (aa' (pv 4)))
  (aj' (ao' (i:=5) (ah' (by kernel_rfl)) (aw' (le' (aa' (pv 5)) (aq' G hr rfl bB' dG' bA' (cz' (aa' (pv 0)) (aa' (pv 1)) (aa' (pv 2)) (aa' (pv 6)) (ab' (aa' (pv 3)) ac' rfl) rfl rfl rfl rfl)))))) aF')))
  (aj' (ak' (av' (aq' aS'.G (hr.mono (Nat.le_trans (by decide) hk)) rfl aS'.m aS'.p aS'.b (ab' (aa' (pv 2)) (ab' (aa' (pv 5)) ac' rfl) rfl))))))))
theorem f8' {f:Addr}{fd:FuncData} (F:Fun K "_law_told_by" "_law_told_by" by' f fd) {c0' cA'} (aK':Cd P w K mg base 2 c0' cA' ["web", "house"] bM' "_law_beside") {dB' c1'} (aS':Cd P w K mg base 5 dB' c1' ["how", "wishes"] bG' "_law_short") (bA':Binds K fd ["web", "holds", "how", "house", "neighbour"] []) (dG':PySem.W.keepIn K (.ref f)=true) (bB':mg "_law_told_by"=some (.ref f)):∀ n:Nat,FnOk P w K mg base CX0 (7+n) f fd ["web", "holds", "how", "house", "neighbour"] (spD K (bP' n))
 | 0=>hK'
 | n+1=>jC' (Nat.le_trans (by decide) (Nat.le_add_right _ n)) F (f8' F aK' aS' bA' dG' bB' n) aK' aS' bA' dG' bB'
theorem lW':FnScope ["web", "holds", "how", "house", "neighbour", "due", "there", "some", "handed", "found"] ["web", "holds", "how", "house", "neighbour"] (defScope cL'):=⟨rfl,rfl,rfl,by decide +kernel,rfl,by decide +kernel,by decide +kernel⟩
theorem lX' {f:Addr}{fd:FuncData} (F:Fun K "_law_right" "_law_right" cL' f fd) {kQ' jM'} (bV':Cd P w K mg base 27 kQ' jM' ["web", "holds", "how", "house", "neighbour"] (bP' 20) "_law_told_by") {mg' kR'} (ci':Cd P w K mg base 3 mg' kR' ["web", "house", "neighbour"] cX' "_law_behind") {gw' fT'} (a8':Cd P w K mg base 4 gw' fT' ["wishes"] bE' "_law_roof") {oI' mX'} (do':Cd P w K mg base 71 oI' mX' ["web", "holds", "how", "house", "neighbour"] eU' "table_of") {gx' fU'} (a9':Cd P w K mg base 11 gx' fU' ["found", "due"] (a6' 8) "_law_same") (z_list:mg "list"=none):FnOk P w K mg base CX0 72 f fd ["web", "holds", "how", "house", "neighbour"] (spD K br') :=
 aL' (k:=71) (N:=["web", "holds", "how", "house", "neighbour", "due", "there", "some", "handed", "found"]) F lW' fP' (fun cdv A outer s H E B hr=>aC'
  (af' (ao' (i:=5) (ah' (by kernel_rfl)) (aq' bV'.G (hr.mono (by decide)) rfl bV'.m bV'.p bV'.b (cz' (aa' (pv 0)) (aa' (pv 1)) (aa' (pv 2)) (aa' (pv 4)) (ab' (aa' (pv 3)) ac' rfl) rfl rfl rfl rfl)))
  (af' (ao' (i:=6) (ah' (by kernel_rfl)) (aw' (bk' ci'.G (hr.mono (by decide)) rfl ci'.m ci'.p ci'.b (ab' (aa' (pv 0)) (ab' (aa' (pv 3)) (ab' (aa' (pv 4)) ac' rfl) rfl) rfl))))
  (af' (ak' (b6' (i:=7) (N':=["at", "wish", "-web", "-holds", "-how", "-house", "-neighbour", "-due", "there", "-some", "-handed", "-found"]) (m:=2) (CompScope.of (by kernel_rfl)) rfl (ah' (by kernel_rfl)) (az' (aa' (pv 1))) (fun _ _ _ _=>(bX' (m:=2) rfl (aA' (gd_n (i:=0) (m:=2) (ah' (by kernel_rfl))) (aA' (gd_n (i:=1) (m:=2) (ah' (by kernel_rfl))) bv')))) (fun _ _ _ _=>(cD' (ro' hr (aa' (pv 0)) (aa' (pv 8))))) (fun _ _ _ _=>(aa' (pv 1)))))
  (af' (aM' (TW.td (fc' (b7' hr (aa' (pv 2)) bu') (eb' (c6' hr (aa' (pv 5)) (aq' a8'.G (hr.mono (by decide)) rfl a8'.m a8'.p a8'.b (ab' (aa' (pv 7)) ac' rfl))))))
  (aj' (ak' (av' dC'))) aF')
  (af' (ao' (i:=8) (ah' (by kernel_rfl)) (aw' (jm' rfl z_list (ab' (aa' (pv 1)) ac' rfl))))
  (af' (ao' (i:=9) (ah' (by kernel_rfl)) (aw' (bk' do'.G (hr.mono (by decide)) rfl do'.m do'.p do'.b (cz' (aa' (pv 0)) (aa' (pv 8)) (aa' (pv 2)) (aa' (pv 3)) (ab' (aa' (pv 4)) ac' rfl) rfl rfl rfl rfl))))
  (aj' (ak' (av' (ey' (aq' a9'.G (hr.mono (by decide)) rfl a9'.m a9'.p a9'.b (ab' (aa' (pv 9)) (ab' (aa' (pv 5)) ac' rfl) rfl)) (fe' (iK' hr (aa' (pv 8)) (aa' (pv 1)))))))))))))))
theorem tJ':FnScope ["script", "pot", "turn", "web", "holds", "how", "some", "handed", "found", "one", "other"] ["script"] (defScope eW'):=⟨rfl,rfl,rfl,by decide +kernel,rfl,by decide +kernel,by decide +kernel⟩
theorem tK' {f:Addr}{fd:FuncData} (F:Fun K "law" "law" eW' f fd) {qd' oJ'} (dV':Cd P w K mg base 2 qd' oJ' ["script"] eE' "_law_pot") {qe' oK'} (bH':Cd P w K mg base 4 qe' oK' ["pot", "most"] eF' "_law_web") {mY' mh'} (cN':Cd P w K mg base 6 mY' mh' ["pot", "web", "fields", "most"] eu' "_law_holds") {bj' a5'} (ad':Cd P w K mg base 3 bj' a5' ["pot", "upto"] ap' "_law_pick") {d8' dA'} (aU':Cd P w K mg base 48 d8' dA' ["how", "wishes"] cp' "short_of") {gx' fU'} (a9':Cd P w K mg base 11 gx' fU' ["found", "due"] (a6' 8) "_law_same") {dB' c1'} (aS':Cd P w K mg base 5 dB' c1' ["how", "wishes"] bG' "_law_short") {mZ' mi'} (aG':Cd P w K mg base 72 mZ' mi' ["web", "holds", "how", "house", "neighbour"] br' "_law_right") (z_range:mg "range"=none) (z_list:mg "list"=none):FnOk P w K mg base CX0 73 f fd ["script"] (spD K gq') :=
 aL' (k:=72) (N:=["script", "pot", "turn", "web", "holds", "how", "some", "handed", "found", "one", "other"]) F tJ' oe' (fun cdv A outer s H E B hr=>aC'
  (af' (ak' (bm' (i:=1) (ah' (by kernel_rfl)) (bk' dV'.G (hr.mono (by decide)) rfl dV'.m dV'.p dV'.b (ab' (aa' (pv 0)) ac' rfl))))
  (af' (aY' PassesOwn.never rfl (ff' rfl z_range (ab' ag' ac' rfl)) (gd_n (i:=2) (m:=100) (ah' (by kernel_rfl)))
  (af' (ao' (i:=3) (ah' (by kernel_rfl)) (aH' bH'.G (hr.mono (by decide)) rfl bH'.m bH'.p bH'.b (pv 1) (ab' ag' ac' rfl)))
  (af' (ao' (i:=4) (ah' (by kernel_rfl)) (aw' (qA' cN'.G (hr.mono (by decide)) rfl cN'.m cN'.p cN'.b (pv 1) (ab' (aa' (pv 3)) (ab' (aI' ag' (aH' ad'.G (hr.mono (by decide)) rfl ad'.m ad'.p ad'.b (pv 1) (ab' ag' ac' rfl))) (ab' ag' ac' rfl) rfl) rfl))))
  (aj' (aY' PassesOwn.never rfl (az' (aw' (aO' (ab' bu' (ab' bu' ac' rfl) rfl)))) (gd_n (i:=5) (m:=100) (ah' (by kernel_rfl)))
  (af' (ak' (b6' (i:=6) (N':=["at", "wish", "-script", "-pot", "-turn", "-web", "-holds", "-how", "-some", "-handed", "-found", "-one", "-other"]) (m:=2) (CompScope.of (by kernel_rfl)) rfl (ah' (by kernel_rfl)) (az' (aa' (pv 4))) (fun _ _ _ _=>(bX' (m:=2) rfl (aA' (gd_n (i:=0) (m:=2) (ah' (by kernel_rfl))) (aA' (gd_n (i:=1) (m:=2) (ah' (by kernel_rfl))) bv')))) (fun _ _ _ _=>bI') (fun _ _ _ _=>(aa' (pv 1)))))
  (af' (ao' (i:=7) (ah' (by kernel_rfl)) (aw' (jm' rfl z_list (ab' (aa' (pv 6)) ac' rfl))))
  (af' (ak' (bm' (i:=8) (ah' (by kernel_rfl)) (bk' aU'.G (hr.mono (by decide)) rfl aU'.m aU'.p aU'.b (ab' (aa' (pv 5)) (ab' (aa' (pv 7)) ac' rfl) rfl))))
  (af' (aM' (TW.td (eP' (fd' (bW' (sg' a9'.G (hr.mono (by decide)) rfl a9'.m a9'.p a9'.b (pv 8) (ab' (aq' aS'.G (hr.mono (by decide)) rfl aS'.m aS'.p aS'.b (ab' (aa' (pv 5)) (ab' (aa' (pv 6)) ac' rfl) rfl)) ac' rfl)))) (dX' (c6' hr (aa' (pv 7)) (aa' (pv 6))))))
  (aj' (ak' (av' dC'))) aF')
  (af' (ak' (cx' (pv 8) bu'))
  (af' (aM' (c6' hr (aa' (pv 7)) (aa' (pv 6)))
  (aj' (ak' (av' dC'))) aF')
  (aj' (aY' PassesOwn.never rfl (az' (an' (aa' (pv 3)) ag')) (bX' (m:=100) rfl (aA' (gd_n (i:=9) (m:=100) (ah' (by kernel_rfl))) (aA' (gd_n (i:=10) (m:=100) (ah' (by kernel_rfl))) bv')))
  (aj' (aM' (TW.td (eP' (fd' (bW' (aq' aG'.G (hr.mono (by decide)) rfl aG'.m aG'.p aG'.b (cz' (aa' (pv 3)) (aa' (pv 4)) (aa' (pv 5)) (aa' (pv 9)) (ab' (aa' (pv 10)) ac' rfl) rfl rfl rfl rfl)))) (dX' (fd' (bW' (aq' aG'.G (hr.mono (by decide)) rfl aG'.m aG'.p aG'.b (cz' (aa' (pv 3)) (aa' (pv 4)) (aa' (pv 5)) (aa' (pv 10)) (ab' (aa' (pv 9)) ac' rfl) rfl rfl rfl rfl)))))))
  (aj' (ak' (av' dC'))) aF')))))))))))))))
  (af' (ao' (i:=3) (ah' (by kernel_rfl)) (aH' bH'.G (hr.mono (by decide)) rfl bH'.m bH'.p bH'.b (pv 1) (ab' ag' ac' rfl)))
  (af' (ak' (b6' (i:=4) (N':=["k", "-script", "pot", "-turn", "web", "-holds", "-how", "-some", "-handed", "-found", "-one", "-other"]) (m:=1) (CompScope.of (by kernel_rfl)) rfl (ah' (by kernel_rfl)) (ff' rfl z_range (ab' ag' ac' rfl)) (fun _ _ _ _=>(gd_n (i:=0) (m:=1) (ah' (by kernel_rfl)))) (fun _ _ _ _=>bI') (fun _ _ _ _=>(aN' (ab' (aH' ad'.G (hr.mono (by decide)) rfl ad'.m ad'.p ad'.b (pv 2) (ab' (an' (aa' (pv 4)) ag') ac' rfl)) (ab' (aN' (ab' (aN' (ab' (aa' (pv 0)) (ab' (aa' (pv 0)) ac' rfl) rfl)) (ab' (aN' (ab' (f4' ag' (aa' (pv 0))) (ab' ag' ac' rfl) rfl)) ac' rfl) rfl)) ac' rfl) rfl)))))
  (af' (aY' PassesOwn.never rfl (az' (an' (aa' (pv 3)) ag')) (bX' (m:=100) rfl (aA' (gd_n (i:=9) (m:=100) (ah' (by kernel_rfl))) (aA' (gd_n (i:=10) (m:=100) (ah' (by kernel_rfl))) bv')))
  (aj' (aY' PassesOwn.never rfl (az' (aw' (aO' (ab' bu' (ab' bu' ac' rfl) rfl)))) (gd_n (i:=5) (m:=100) (ah' (by kernel_rfl)))
  (aj' (aM' (TW.td (eP' (fd' (bW' (aq' aG'.G (hr.mono (by decide)) rfl aG'.m aG'.p aG'.b (cz' (aa' (pv 3)) (aa' (pv 4)) (aa' (pv 5)) (aa' (pv 9)) (ab' (aa' (pv 10)) ac' rfl) rfl rfl rfl rfl)))) (dX' (fd' (bW' (aq' aG'.G (hr.mono (by decide)) rfl aG'.m aG'.p aG'.b (cz' (aa' (pv 3)) (aa' (pv 4)) (aa' (pv 5)) (aa' (pv 10)) (ab' (aa' (pv 9)) ac' rfl) rfl rfl rfl rfl)))))))
  (aj' (ak' (av' dC'))) aF')))))
  (aj' (ak' (av' dC')))))))))
end
theorem all_mk {l:PySem.W.OpenLaw}{w:World}{K:PySem.W.Frag}{h:Heap}{mg:Str->Option Value}{fa:Addr} (X:K.In h) (G:h.Ns mainGlobals mg) (hfa:mg "law"=some (.ref fa))
  {f0:Addr}{od0 an0:Option Addr}{sl0:Array (Option Value)}{oc0 kV0 dc0 pm0 cd0 ct0:Value} (a0:PySem.W.nsIn K mainGlobals "must_be_kin"=some (some (.ref f0))) (l0:K.lookup f0=some ⟨oc0,od0,.func (PySem.W.fnOf "must_be_kin" "must_be_kin" (defArgs bQ') (defBody bQ') (defScope bQ') .none kV0 dc0 pm0 an0 cd0 ct0),sl0⟩) (c0:PySem.W.codeIn K cd0 "must_be_kin"=true) (k0:PySem.W.keepIn K (.ref f0)=true)
  {f1:Addr}{od1 an1:Option Addr}{sl1:Array (Option Value)}{oc1 kV1 dc1 pm1 cd1 ct1:Value} (a1:PySem.W.nsIn K mainGlobals "covers"=some (some (.ref f1))) (l1:K.lookup f1=some ⟨oc1,od1,.func (PySem.W.fnOf "covers" "covers" (defArgs ej') (defBody ej') (defScope ej') .none kV1 dc1 pm1 an1 cd1 ct1),sl1⟩) (c1:PySem.W.codeIn K cd1 "covers"=true) (k1:PySem.W.keepIn K (.ref f1)=true)
  {f2:Addr}{od2 an2:Option Addr}{sl2:Array (Option Value)}{oc2 kV2 dc2 pm2 cd2 ct2:Value} (a2:PySem.W.nsIn K mainGlobals "in_common"=some (some (.ref f2))) (l2:K.lookup f2=some ⟨oc2,od2,.func (PySem.W.fnOf "in_common" "in_common" (defArgs cF') (defBody cF') (defScope cF') .none kV2 dc2 pm2 an2 cd2 ct2),sl2⟩) (c2:PySem.W.codeIn K cd2 "in_common"=true) (k2:PySem.W.keepIn K (.ref f2)=true)
  {f3:Addr}{od3 an3:Option Addr}{sl3:Array (Option Value)}{oc3 kV3 dc3 pm3 cd3 ct3:Value} (a3:PySem.W.nsIn K mainGlobals "roof_of"=some (some (.ref f3))) (l3:K.lookup f3=some ⟨oc3,od3,.func (PySem.W.fnOf "roof_of" "roof_of" (defArgs dO') (defBody dO') (defScope dO') .none kV3 dc3 pm3 an3 cd3 ct3),sl3⟩) (c3:PySem.W.codeIn K cd3 "roof_of"=true) (k3:PySem.W.keepIn K (.ref f3)=true)
  {f4:Addr}{od4 an4:Option Addr}{sl4:Array (Option Value)}{oc4 kV4 dc4 pm4 cd4 ct4:Value} (a4:PySem.W.nsIn K mainGlobals "is_under_another"=some (some (.ref f4))) (l4:K.lookup f4=some ⟨oc4,od4,.func (PySem.W.fnOf "is_under_another" "is_under_another" (defArgs be') (defBody be') (defScope be') .none kV4 dc4 pm4 an4 cd4 ct4),sl4⟩) (c4:PySem.W.codeIn K cd4 "is_under_another"=true) (k4:PySem.W.keepIn K (.ref f4)=true)
  {f5:Addr}{od5 an5:Option Addr}{sl5:Array (Option Value)}{oc5 kV5 dc5 pm5 cd5 ct5:Value} (a5:PySem.W.nsIn K mainGlobals "covered"=some (some (.ref f5))) (l5:K.lookup f5=some ⟨oc5,od5,.func (PySem.W.fnOf "covered" "covered" (defArgs dP') (defBody dP') (defScope dP') .none kV5 dc5 pm5 an5 cd5 ct5),sl5⟩) (c5:PySem.W.codeIn K cd5 "covered"=true) (k5:PySem.W.keepIn K (.ref f5)=true)
  {f6:Addr}{od6 an6:Option Addr}{sl6:Array (Option Value)}{oc6 kV6 dc6 pm6 cd6 ct6:Value} (a6:PySem.W.nsIn K mainGlobals "looked_through"=some (some (.ref f6))) (l6:K.lookup f6=some ⟨oc6,od6,.func (PySem.W.fnOf "looked_through" "looked_through" (defArgs bb') (defBody bb') (defScope bb') .none kV6 dc6 pm6 an6 cd6 ct6),sl6⟩) (c6:PySem.W.codeIn K cd6 "looked_through"=true) (k6:PySem.W.keepIn K (.ref f6)=true)
  {f7:Addr}{od7 an7:Option Addr}{sl7:Array (Option Value)}{oc7 kV7 dc7 pm7 cd7 ct7:Value} (a7:PySem.W.nsIn K mainGlobals "first_border"=some (some (.ref f7))) (l7:K.lookup f7=some ⟨oc7,od7,.func (PySem.W.fnOf "first_border" "first_border" (defArgs bJ') (defBody bJ') (defScope bJ') .none kV7 dc7 pm7 an7 cd7 ct7),sl7⟩) (c7:PySem.W.codeIn K cd7 "first_border"=true) (k7:PySem.W.keepIn K (.ref f7)=true)
  {f8:Addr}{od8 an8:Option Addr}{sl8:Array (Option Value)}{oc8 kV8 dc8 pm8 cd8 ct8:Value} (a8:PySem.W.nsIn K mainGlobals "halves_of"=some (some (.ref f8))) (l8:K.lookup f8=some ⟨oc8,od8,.func (PySem.W.fnOf "halves_of" "halves_of" (defArgs cG') (defBody cG') (defScope cG') .none kV8 dc8 pm8 an8 cd8 ct8),sl8⟩) (c8:PySem.W.codeIn K cd8 "halves_of"=true) (k8:PySem.W.keepIn K (.ref f8)=true)
  {f9:Addr}{od9 an9:Option Addr}{sl9:Array (Option Value)}{oc9 kV9 dc9 pm9 cd9 ct9:Value} (a9:PySem.W.nsIn K mainGlobals "spare_of"=some (some (.ref f9))) (l9:K.lookup f9=some ⟨oc9,od9,.func (PySem.W.fnOf "spare_of" "spare_of" (defArgs db') (defBody db') (defScope db') .none kV9 dc9 pm9 an9 cd9 ct9),sl9⟩) (c9:PySem.W.codeIn K cd9 "spare_of"=true) (k9:PySem.W.keepIn K (.ref f9)=true)
  {f10:Addr}{od10 an10:Option Addr}{sl10:Array (Option Value)}{oc10 kV10 dc10 pm10 cd10 ct10:Value} (a10:PySem.W.nsIn K mainGlobals "must_be_house"=some (some (.ref f10))) (l10:K.lookup f10=some ⟨oc10,od10,.func (PySem.W.fnOf "must_be_house" "must_be_house" (defArgs bw') (defBody bw') (defScope bw') .none kV10 dc10 pm10 an10 cd10 ct10),sl10⟩) (c10:PySem.W.codeIn K cd10 "must_be_house"=true) (k10:PySem.W.keepIn K (.ref f10)=true)
  {f11:Addr}{od11 an11:Option Addr}{sl11:Array (Option Value)}{oc11 kV11 dc11 pm11 cd11 ct11:Value} (a11:PySem.W.nsIn K mainGlobals "must_be_road"=some (some (.ref f11))) (l11:K.lookup f11=some ⟨oc11,od11,.func (PySem.W.fnOf "must_be_road" "must_be_road" (defArgs bK') (defBody bK') (defScope bK') .none kV11 dc11 pm11 an11 cd11 ct11),sl11⟩) (c11:PySem.W.codeIn K cd11 "must_be_road"=true) (k11:PySem.W.keepIn K (.ref f11)=true)
  {f12:Addr}{od12 an12:Option Addr}{sl12:Array (Option Value)}{oc12 kV12 dc12 pm12 cd12 ct12:Value} (a12:PySem.W.nsIn K mainGlobals "neighbours_of"=some (some (.ref f12))) (l12:K.lookup f12=some ⟨oc12,od12,.func (PySem.W.fnOf "neighbours_of" "neighbours_of" (defArgs bx') (defBody bx') (defScope bx') .none kV12 dc12 pm12 an12 cd12 ct12),sl12⟩) (c12:PySem.W.codeIn K cd12 "neighbours_of"=true) (k12:PySem.W.keepIn K (.ref f12)=true)
  {f13:Addr}{od13 an13:Option Addr}{sl13:Array (Option Value)}{oc13 kV13 dc13 pm13 cd13 ct13:Value} (a13:PySem.W.nsIn K mainGlobals "short_of"=some (some (.ref f13))) (l13:K.lookup f13=some ⟨oc13,od13,.func (PySem.W.fnOf "short_of" "short_of" (defArgs dc') (defBody dc') (defScope dc') .none kV13 dc13 pm13 an13 cd13 ct13),sl13⟩) (c13:PySem.W.codeIn K cd13 "short_of"=true) (k13:PySem.W.keepIn K (.ref f13)=true)
  {f14:Addr}{od14 an14:Option Addr}{sl14:Array (Option Value)}{oc14 kV14 dc14 pm14 cd14 ct14:Value} (a14:PySem.W.nsIn K mainGlobals "wishes_of"=some (some (.ref f14))) (l14:K.lookup f14=some ⟨oc14,od14,.func (PySem.W.fnOf "wishes_of" "wishes_of" (defArgs cH') (defBody cH') (defScope cH') .none kV14 dc14 pm14 an14 cd14 ct14),sl14⟩) (c14:PySem.W.codeIn K cd14 "wishes_of"=true) (k14:PySem.W.keepIn K (.ref f14)=true)
  {f15:Addr}{od15 an15:Option Addr}{sl15:Array (Option Value)}{oc15 kV15 dc15 pm15 cd15 ct15:Value} (a15:PySem.W.nsIn K mainGlobals "table_of"=some (some (.ref f15))) (l15:K.lookup f15=some ⟨oc15,od15,.func (PySem.W.fnOf "table_of" "table_of" (defArgs dd') (defBody dd') (defScope dd') .none kV15 dc15 pm15 an15 cd15 ct15),sl15⟩) (c15:PySem.W.codeIn K cd15 "table_of"=true) (k15:PySem.W.keepIn K (.ref f15)=true)
  {f16:Addr}{od16 an16:Option Addr}{sl16:Array (Option Value)}{oc16 kV16 dc16 pm16 cd16 ct16:Value} (a16:PySem.W.nsIn K mainGlobals "heard_of"=some (some (.ref f16))) (l16:K.lookup f16=some ⟨oc16,od16,.func (PySem.W.fnOf "heard_of" "heard_of" (defArgs cr') (defBody cr') (defScope cr') .none kV16 dc16 pm16 an16 cd16 ct16),sl16⟩) (c16:PySem.W.codeIn K cd16 "heard_of"=true) (k16:PySem.W.keepIn K (.ref f16)=true)
  {f17:Addr}{od17 an17:Option Addr}{sl17:Array (Option Value)}{oc17 kV17 dc17 pm17 cd17 ct17:Value} (a17:PySem.W.nsIn K mainGlobals "_law_blend"=some (some (.ref f17))) (l17:K.lookup f17=some ⟨oc17,od17,.func (PySem.W.fnOf "_law_blend" "_law_blend" (defArgs cI') (defBody cI') (defScope cI') .none kV17 dc17 pm17 an17 cd17 ct17),sl17⟩) (c17:PySem.W.codeIn K cd17 "_law_blend"=true) (k17:PySem.W.keepIn K (.ref f17)=true)
  {f18:Addr}{od18 an18:Option Addr}{sl18:Array (Option Value)}{oc18 kV18 dc18 pm18 cd18 ct18:Value} (a18:PySem.W.nsIn K mainGlobals "_law_pot"=some (some (.ref f18))) (l18:K.lookup f18=some ⟨oc18,od18,.func (PySem.W.fnOf "_law_pot" "_law_pot" (defArgs dQ') (defBody dQ') (defScope dQ') .none kV18 dc18 pm18 an18 cd18 ct18),sl18⟩) (c18:PySem.W.codeIn K cd18 "_law_pot"=true) (k18:PySem.W.keepIn K (.ref f18)=true)
  {f19:Addr}{od19 an19:Option Addr}{sl19:Array (Option Value)}{oc19 kV19 dc19 pm19 cd19 ct19:Value} (a19:PySem.W.nsIn K mainGlobals "_law_pick"=some (some (.ref f19))) (l19:K.lookup f19=some ⟨oc19,od19,.func (PySem.W.fnOf "_law_pick" "_law_pick" (defArgs de') (defBody de') (defScope de') .none kV19 dc19 pm19 an19 cd19 ct19),sl19⟩) (c19:PySem.W.codeIn K cd19 "_law_pick"=true) (k19:PySem.W.keepIn K (.ref f19)=true)
  {f20:Addr}{od20 an20:Option Addr}{sl20:Array (Option Value)}{oc20 kV20 dc20 pm20 cd20 ct20:Value} (a20:PySem.W.nsIn K mainGlobals "_law_same"=some (some (.ref f20))) (l20:K.lookup f20=some ⟨oc20,od20,.func (PySem.W.fnOf "_law_same" "_law_same" (defArgs ct') (defBody ct') (defScope ct') .none kV20 dc20 pm20 an20 cd20 ct20),sl20⟩) (c20:PySem.W.codeIn K cd20 "_law_same"=true) (k20:PySem.W.keepIn K (.ref f20)=true)
  {f21:Addr}{od21 an21:Option Addr}{sl21:Array (Option Value)}{oc21 kV21 dc21 pm21 cd21 ct21:Value} (a21:PySem.W.nsIn K mainGlobals "_law_wish"=some (some (.ref f21))) (l21:K.lookup f21=some ⟨oc21,od21,.func (PySem.W.fnOf "_law_wish" "_law_wish" (defArgs df') (defBody df') (defScope df') .none kV21 dc21 pm21 an21 cd21 ct21),sl21⟩) (c21:PySem.W.codeIn K cd21 "_law_wish"=true) (k21:PySem.W.keepIn K (.ref f21)=true)
  {f22:Addr}{od22 an22:Option Addr}{sl22:Array (Option Value)}{oc22 kV22 dc22 pm22 cd22 ct22:Value} (a22:PySem.W.nsIn K mainGlobals "_law_wishes"=some (some (.ref f22))) (l22:K.lookup f22=some ⟨oc22,od22,.func (PySem.W.fnOf "_law_wishes" "_law_wishes" (defArgs ca') (defBody ca') (defScope ca') .none kV22 dc22 pm22 an22 cd22 ct22),sl22⟩) (c22:PySem.W.codeIn K cd22 "_law_wishes"=true) (k22:PySem.W.keepIn K (.ref f22)=true)
  {f23:Addr}{od23 an23:Option Addr}{sl23:Array (Option Value)}{oc23 kV23 dc23 pm23 cd23 ct23:Value} (a23:PySem.W.nsIn K mainGlobals "_law_nudged"=some (some (.ref f23))) (l23:K.lookup f23=some ⟨oc23,od23,.func (PySem.W.fnOf "_law_nudged" "_law_nudged" (defArgs cb') (defBody cb') (defScope cb') .none kV23 dc23 pm23 an23 cd23 ct23),sl23⟩) (c23:PySem.W.codeIn K cd23 "_law_nudged"=true) (k23:PySem.W.keepIn K (.ref f23)=true)
  {f24:Addr}{od24 an24:Option Addr}{sl24:Array (Option Value)}{oc24 kV24 dc24 pm24 cd24 ct24:Value} (a24:PySem.W.nsIn K mainGlobals "_law_has"=some (some (.ref f24))) (l24:K.lookup f24=some ⟨oc24,od24,.func (PySem.W.fnOf "_law_has" "_law_has" (defArgs dR') (defBody dR') (defScope dR') .none kV24 dc24 pm24 an24 cd24 ct24),sl24⟩) (c24:PySem.W.codeIn K cd24 "_law_has"=true) (k24:PySem.W.keepIn K (.ref f24)=true)
  {f25:Addr}{od25 an25:Option Addr}{sl25:Array (Option Value)}{oc25 kV25 dc25 pm25 cd25 ct25:Value} (a25:PySem.W.nsIn K mainGlobals "_law_letters"=some (some (.ref f25))) (l25:K.lookup f25=some ⟨oc25,od25,.func (PySem.W.fnOf "_law_letters" "_law_letters" (defArgs bR') (defBody bR') (defScope bR') .none kV25 dc25 pm25 an25 cd25 ct25),sl25⟩) (c25:PySem.W.codeIn K cd25 "_law_letters"=true) (k25:PySem.W.keepIn K (.ref f25)=true)
  {f26:Addr}{od26 an26:Option Addr}{sl26:Array (Option Value)}{oc26 kV26 dc26 pm26 cd26 ct26:Value} (a26:PySem.W.nsIn K mainGlobals "_law_covers"=some (some (.ref f26))) (l26:K.lookup f26=some ⟨oc26,od26,.func (PySem.W.fnOf "_law_covers" "_law_covers" (defArgs cc') (defBody cc') (defScope cc') .none kV26 dc26 pm26 an26 cd26 ct26),sl26⟩) (c26:PySem.W.codeIn K cd26 "_law_covers"=true) (k26:PySem.W.keepIn K (.ref f26)=true)
  {f27:Addr}{od27 an27:Option Addr}{sl27:Array (Option Value)}{oc27 kV27 dc27 pm27 cd27 ct27:Value} (a27:PySem.W.nsIn K mainGlobals "_law_roof"=some (some (.ref f27))) (l27:K.lookup f27=some ⟨oc27,od27,.func (PySem.W.fnOf "_law_roof" "_law_roof" (defArgs dg') (defBody dg') (defScope dg') .none kV27 dc27 pm27 an27 cd27 ct27),sl27⟩) (c27:PySem.W.codeIn K cd27 "_law_roof"=true) (k27:PySem.W.keepIn K (.ref f27)=true)
  {f28:Addr}{od28 an28:Option Addr}{sl28:Array (Option Value)}{oc28 kV28 dc28 pm28 cd28 ct28:Value} (a28:PySem.W.nsIn K mainGlobals "_law_web"=some (some (.ref f28))) (l28:K.lookup f28=some ⟨oc28,od28,.func (PySem.W.fnOf "_law_web" "_law_web" (defArgs dS') (defBody dS') (defScope dS') .none kV28 dc28 pm28 an28 cd28 ct28),sl28⟩) (c28:PySem.W.codeIn K cd28 "_law_web"=true) (k28:PySem.W.keepIn K (.ref f28)=true)
  {f29:Addr}{od29 an29:Option Addr}{sl29:Array (Option Value)}{oc29 kV29 dc29 pm29 cd29 ct29:Value} (a29:PySem.W.nsIn K mainGlobals "_law_beside"=some (some (.ref f29))) (l29:K.lookup f29=some ⟨oc29,od29,.func (PySem.W.fnOf "_law_beside" "_law_beside" (defArgs cd') (defBody cd') (defScope cd') .none kV29 dc29 pm29 an29 cd29 ct29),sl29⟩) (c29:PySem.W.codeIn K cd29 "_law_beside"=true) (k29:PySem.W.keepIn K (.ref f29)=true)
  {f30:Addr}{od30 an30:Option Addr}{sl30:Array (Option Value)}{oc30 kV30 dc30 pm30 cd30 ct30:Value} (a30:PySem.W.nsIn K mainGlobals "_law_behind"=some (some (.ref f30))) (l30:K.lookup f30=some ⟨oc30,od30,.func (PySem.W.fnOf "_law_behind" "_law_behind" (defArgs ce') (defBody ce') (defScope ce') .none kV30 dc30 pm30 an30 cd30 ct30),sl30⟩) (c30:PySem.W.codeIn K cd30 "_law_behind"=true) (k30:PySem.W.keepIn K (.ref f30)=true)
  {f31:Addr}{od31 an31:Option Addr}{sl31:Array (Option Value)}{oc31 kV31 dc31 pm31 cd31 ct31:Value} (a31:PySem.W.nsIn K mainGlobals "_law_holds"=some (some (.ref f31))) (l31:K.lookup f31=some ⟨oc31,od31,.func (PySem.W.fnOf "_law_holds" "_law_holds" (defArgs cJ') (defBody cJ') (defScope cJ') .none kV31 dc31 pm31 an31 cd31 ct31),sl31⟩) (c31:PySem.W.codeIn K cd31 "_law_holds"=true) (k31:PySem.W.keepIn K (.ref f31)=true)
  {f32:Addr}{od32 an32:Option Addr}{sl32:Array (Option Value)}{oc32 kV32 dc32 pm32 cd32 ct32:Value} (a32:PySem.W.nsIn K mainGlobals "_law_all_had"=some (some (.ref f32))) (l32:K.lookup f32=some ⟨oc32,od32,.func (PySem.W.fnOf "_law_all_had" "_law_all_had" (defArgs bS') (defBody bS') (defScope bS') .none kV32 dc32 pm32 an32 cd32 ct32),sl32⟩) (c32:PySem.W.codeIn K cd32 "_law_all_had"=true) (k32:PySem.W.keepIn K (.ref f32)=true)
  {f33:Addr}{od33 an33:Option Addr}{sl33:Array (Option Value)}{oc33 kV33 dc33 pm33 cd33 ct33:Value} (a33:PySem.W.nsIn K mainGlobals "_law_short"=some (some (.ref f33))) (l33:K.lookup f33=some ⟨oc33,od33,.func (PySem.W.fnOf "_law_short" "_law_short" (defArgs cK') (defBody cK') (defScope cK') .none kV33 dc33 pm33 an33 cd33 ct33),sl33⟩) (c33:PySem.W.codeIn K cd33 "_law_short"=true) (k33:PySem.W.keepIn K (.ref f33)=true)
  {f34:Addr}{od34 an34:Option Addr}{sl34:Array (Option Value)}{oc34 kV34 dc34 pm34 cd34 ct34:Value} (a34:PySem.W.nsIn K mainGlobals "_law_told_by"=some (some (.ref f34))) (l34:K.lookup f34=some ⟨oc34,od34,.func (PySem.W.fnOf "_law_told_by" "_law_told_by" (defArgs by') (defBody by') (defScope by') .none kV34 dc34 pm34 an34 cd34 ct34),sl34⟩) (c34:PySem.W.codeIn K cd34 "_law_told_by"=true) (k34:PySem.W.keepIn K (.ref f34)=true)
  {f35:Addr}{od35 an35:Option Addr}{sl35:Array (Option Value)}{oc35 kV35 dc35 pm35 cd35 ct35:Value} (a35:PySem.W.nsIn K mainGlobals "_law_right"=some (some (.ref f35))) (l35:K.lookup f35=some ⟨oc35,od35,.func (PySem.W.fnOf "_law_right" "_law_right" (defArgs cL') (defBody cL') (defScope cL') .none kV35 dc35 pm35 an35 cd35 ct35),sl35⟩) (c35:PySem.W.codeIn K cd35 "_law_right"=true) (k35:PySem.W.keepIn K (.ref f35)=true)
  {f36:Addr}{od36 an36:Option Addr}{sl36:Array (Option Value)}{oc36 kV36 dc36 pm36 cd36 ct36:Value} (a36:PySem.W.nsIn K mainGlobals "law"=some (some (.ref f36))) (l36:K.lookup f36=some ⟨oc36,od36,.func (PySem.W.fnOf "law" "law" (defArgs eW') (defBody eW') (defScope eW') .none kV36 dc36 pm36 an36 cd36 ct36),sl36⟩) (c36:PySem.W.codeIn K cd36 "law"=true) (k36:PySem.W.keepIn K (.ref f36)=true)
  (y_all:PySem.W.nsIn K mainGlobals "all"=some none)
  (y_any:PySem.W.nsIn K mainGlobals "any"=some none)
  (y_bool:PySem.W.nsIn K mainGlobals "bool"=some none)
  (y_enumerate:PySem.W.nsIn K mainGlobals "enumerate"=some none)
  (y_int:PySem.W.nsIn K mainGlobals "int"=some none)
  (y_isinstance:PySem.W.nsIn K mainGlobals "isinstance"=some none)
  (y_len:PySem.W.nsIn K mainGlobals "len"=some none)
  (y_list:PySem.W.nsIn K mainGlobals "list"=some none)
  (y_max:PySem.W.nsIn K mainGlobals "max"=some none)
  (y_min:PySem.W.nsIn K mainGlobals "min"=some none)
  (y_range:PySem.W.nsIn K mainGlobals "range"=some none)
  (y_set:PySem.W.nsIn K mainGlobals "set"=some none)
  (y_sorted:PySem.W.nsIn K mainGlobals "sorted"=some none)
  (y_str:PySem.W.nsIn K mainGlobals "str"=some none)
  (y_tuple:PySem.W.nsIn K mainGlobals "tuple"=some none)
  (y_zip:PySem.W.nsIn K mainGlobals "zip"=some none) :
  ∃ fd:FuncData,(∀ (s:Shared) (v:Value),BindsTo s fd ⟨[v],[]⟩ [("script", v)])/\∀ base:Heap,K.In base->base.Ns mainGlobals mg->FnOk l.prog w K mg base CX0 73 fa fd ["script"] (spD K gq'):=by
 have e:=hfa.symm.trans (PySem.W.mg_of X G a36)
 cases e
 have z_all:=PySem.W.mg_none_of X G y_all
 have z_any:=PySem.W.mg_none_of X G y_any
 have z_bool:=PySem.W.mg_none_of X G y_bool
 have z_enumerate:=PySem.W.mg_none_of X G y_enumerate
 have z_int:=PySem.W.mg_none_of X G y_int
 have z_isinstance:=PySem.W.mg_none_of X G y_isinstance
 have z_len:=PySem.W.mg_none_of X G y_len
 have z_list:=PySem.W.mg_none_of X G y_list
 have z_max:=PySem.W.mg_none_of X G y_max
 have z_min:=PySem.W.mg_none_of X G y_min
 have z_range:=PySem.W.mg_none_of X G y_range
 have z_set:=PySem.W.mg_none_of X G y_set
 have z_sorted:=PySem.W.mg_none_of X G y_sorted
 have z_str:=PySem.W.mg_none_of X G y_str
 have z_tuple:=PySem.W.mg_none_of X G y_tuple
 have z_zip:=PySem.W.mg_none_of X G y_zip
 have bC':=aB' (st:=bQ') l0 c0 k0
 have cB':=PySem.W.mg_of X G a0
 have cC':=bC'.binds (ps:=["things"]) fun _ _ _ _ _ _ us hl=>match us,hl with | [_],_=>rfl
 have gy':=aB' (st:=ej') l1 c1 k1
 have mj':=PySem.W.mg_of X G a1
 have ml':=gy'.binds (ps:=["one", "other"]) fun _ _ _ _ _ _ us hl=>match us,hl with | [_,_],_=>rfl
 have fV':=aB' (st:=cF') l2 c2 k2
 have m0':=PySem.W.mg_of X G a2
 have m1':=fV'.binds (ps:=["one", "other"]) fun _ _ _ _ _ _ us hl=>match us,hl with | [_,_],_=>rfl
 have fD':=aB' (st:=dO') l3 c3 k3
 have kt':=PySem.W.mg_of X G a3
 have ku':=fD'.binds (ps:=["wishes"]) fun _ _ _ _ _ _ us hl=>match us,hl with | [_],_=>rfl
 have c2':=aB' (st:=be') l4 c4 k4
 have hh':=PySem.W.mg_of X G a4
 have ht':=c2'.binds (ps:=["wishes", "wish"]) fun _ _ _ _ _ _ us hl=>match us,hl with | [_,_],_=>rfl
 have hu':=aB' (st:=dP') l5 c5 k5
 have qf':=PySem.W.mg_of X G a5
 have qg':=hu'.binds (ps:=["wishes", "wish"]) fun _ _ _ _ _ _ us hl=>match us,hl with | [_,_],_=>rfl
 have cw':=aB' (st:=bb') l6 c6 k6
 have a0':=PySem.W.mg_of X G a6
 have aZ':=cw'.binds (ps:=["wishes", "numbers", "part"]) fun _ _ _ _ _ _ us hl=>match us,hl with | [_,_,_],_=>rfl
 have eo':=aB' (st:=bJ') l7 c7 k7
 have jN':=PySem.W.mg_of X G a7
 have jO':=eo'.binds (ps:=["wishes", "part"]) fun _ _ _ _ _ _ us hl=>match us,hl with | [_,_],_=>rfl
 have fW':=aB' (st:=cG') l8 c8 k8
 have m2':=PySem.W.mg_of X G a8
 have m3':=fW'.binds (ps:=["part", "field", "at"]) fun _ _ _ _ _ _ us hl=>match us,hl with | [_,_,_],_=>rfl
 have gz':=aB' (st:=db') l9 c9 k9
 have oL':=PySem.W.mg_of X G a9
 have oM':=gz'.binds (ps:=["wishes"]) fun _ _ _ _ _ _ us hl=>match us,hl with | [_],_=>rfl
 have cO':=aB' (st:=bw') l10 c10 k10
 have fE':=PySem.W.mg_of X G a10
 have fF':=cO'.binds (ps:=["web", "house"]) fun _ _ _ _ _ _ us hl=>match us,hl with | [_,_],_=>rfl
 have er':=aB' (st:=bK') l11 c11 k11
 have jP':=PySem.W.mg_of X G a11
 have jQ':=er'.binds (ps:=["web", "one", "other"]) fun _ _ _ _ _ _ us hl=>match us,hl with | [_,_,_],_=>rfl
 have cP':=aB' (st:=bx') l12 c12 k12
 have fG':=PySem.W.mg_of X G a12
 have fH':=cP'.binds (ps:=["web", "house"]) fun _ _ _ _ _ _ us hl=>match us,hl with | [_,_],_=>rfl
 have e2':=aB' (st:=dc') l13 c13 k13
 have i9':=PySem.W.mg_of X G a13
 have ja':=e2'.binds (ps:=["how", "wishes"]) fun _ _ _ _ _ _ us hl=>match us,hl with | [_,_],_=>rfl
 have ev':=aB' (st:=cH') l14 c14 k14
 have ib':=PySem.W.mg_of X G a14
 have ic':=ev'.binds (ps:=["holds"]) fun _ _ _ _ _ _ us hl=>match us,hl with | [_],_=>rfl
 have gA':=aB' (st:=dd') l15 c15 k15
 have oN':=PySem.W.mg_of X G a15
 have oO':=gA'.binds (ps:=["web", "holds", "how", "house", "neighbour"]) fun _ _ _ _ _ _ us hl=>match us,hl with | [_,_,_,_,_],_=>rfl
 have e4':=aB' (st:=cr') l16 c16 k16
 have cv':=PySem.W.mg_of X G a16
 have cu':=e4'.binds (ps:=["web", "holds", "how", "house", "neighbour"]) fun _ _ _ _ _ _ us hl=>match us,hl with | [_,_,_,_,_],_=>rfl
 have fX':=aB' (st:=cI') l17 c17 k17
 have m4':=PySem.W.mg_of X G a17
 have m5':=fX'.binds (ps:=["cell", "at"]) fun _ _ _ _ _ _ us hl=>match us,hl with | [_,_],_=>rfl
 have hA':=aB' (st:=dQ') l18 c18 k18
 have qh':=PySem.W.mg_of X G a18
 have qi':=hA'.binds (ps:=["script"]) fun _ _ _ _ _ _ us hl=>match us,hl with | [_],_=>rfl
 have b5':=aB' (st:=de') l19 c19 k19
 have dp':=PySem.W.mg_of X G a19
 have dq':=b5'.binds (ps:=["pot", "upto"]) fun _ _ _ _ _ _ us hl=>match us,hl with | [_,_],_=>rfl
 have d9':=aB' (st:=ct') l20 c20 k20
 have b4':=PySem.W.mg_of X G a20
 have b3':=d9'.binds (ps:=["found", "due"]) fun _ _ _ _ _ _ us hl=>match us,hl with | [_,_],_=>rfl
 have gB':=aB' (st:=df') l21 c21 k21
 have oP':=PySem.W.mg_of X G a21
 have oQ':=gB'.binds (ps:=["pot", "fields", "low", "top"]) fun _ _ _ _ _ _ us hl=>match us,hl with | [_,_,_,_],_=>rfl
 have ft':=aB' (st:=ca') l22 c22 k22
 have mn':=PySem.W.mg_of X G a22
 have mo':=ft'.binds (ps:=["pot", "fields", "most"]) fun _ _ _ _ _ _ us hl=>match us,hl with | [_,_,_],_=>rfl
 have fu':=aB' (st:=cb') l23 c23 k23
 have mp':=PySem.W.mg_of X G a23
 have mq':=fu'.binds (ps:=["pot", "wish"]) fun _ _ _ _ _ _ us hl=>match us,hl with | [_,_],_=>rfl
 have fI':=aB' (st:=dR') l24 c24 k24
 have kw':=PySem.W.mg_of X G a24
 have kx':=fI'.binds (ps:=["wish", "letter"]) fun _ _ _ _ _ _ us hl=>match us,hl with | [_,_],_=>rfl
 have eL':=aB' (st:=bR') l25 c25 k25
 have kS':=PySem.W.mg_of X G a25
 have kT':=eL'.binds (ps:=["wish"]) fun _ _ _ _ _ _ us hl=>match us,hl with | [_],_=>rfl
 have fv':=aB' (st:=cc') l26 c26 k26
 have mr':=PySem.W.mg_of X G a26
 have ms':=fv'.binds (ps:=["one", "other"]) fun _ _ _ _ _ _ us hl=>match us,hl with | [_,_],_=>rfl
 have e5':=aB' (st:=dg') l27 c27 k27
 have jb':=PySem.W.mg_of X G a27
 have jc':=e5'.binds (ps:=["wishes"]) fun _ _ _ _ _ _ us hl=>match us,hl with | [_],_=>rfl
 have hB':=aB' (st:=dS') l28 c28 k28
 have qj':=PySem.W.mg_of X G a28
 have qk':=hB'.binds (ps:=["pot", "most"]) fun _ _ _ _ _ _ us hl=>match us,hl with | [_,_],_=>rfl
 have ea':=aB' (st:=cd') l29 c29 k29
 have hC':=PySem.W.mg_of X G a29
 have hD':=ea'.binds (ps:=["web", "house"]) fun _ _ _ _ _ _ us hl=>match us,hl with | [_,_],_=>rfl
 have fw':=aB' (st:=ce') l30 c30 k30
 have mt':=PySem.W.mg_of X G a30
 have mu':=fw'.binds (ps:=["web", "house", "neighbour"]) fun _ _ _ _ _ _ us hl=>match us,hl with | [_,_,_],_=>rfl
 have fY':=aB' (st:=cJ') l31 c31 k31
 have m6':=PySem.W.mg_of X G a31
 have m7':=fY'.binds (ps:=["pot", "web", "fields", "most"]) fun _ _ _ _ _ _ us hl=>match us,hl with | [_,_,_,_],_=>rfl
 have eM':=aB' (st:=bS') l32 c32 k32
 have kU':=PySem.W.mg_of X G a32
 have kV':=eM'.binds (ps:=["wishes", "wish"]) fun _ _ _ _ _ _ us hl=>match us,hl with | [_,_],_=>rfl
 have ew':=aB' (st:=cK') l33 c33 k33
 have ie':=PySem.W.mg_of X G a33
 have if':=ew'.binds (ps:=["how", "wishes"]) fun _ _ _ _ _ _ us hl=>match us,hl with | [_,_],_=>rfl
 have dH':=aB' (st:=by') l34 c34 k34
 have bB':=PySem.W.mg_of X G a34
 have bA':=dH'.binds (ps:=["web", "holds", "how", "house", "neighbour"]) fun _ _ _ _ _ _ us hl=>match us,hl with | [_,_,_,_,_],_=>rfl
 have fZ':=aB' (st:=cL') l35 c35 k35
 have m8':=PySem.W.mg_of X G a35
 have m9':=fZ'.binds (ps:=["web", "holds", "how", "house", "neighbour"]) fun _ _ _ _ _ _ us hl=>match us,hl with | [_,_,_,_,_],_=>rfl
 have uP':=aB' (st:=eW') l36 c36 k36
 have wN':=PySem.W.mg_of X G a36
 refine ⟨PySem.W.fnOf "law" "law" (defArgs eW') (defBody eW') (defScope eW') .none kV36 dc36 pm36 an36 cd36 ct36,fun s v=>.of_eq rfl,fun base _ _=>?_⟩
 have dV':=ok' (P:=l.prog) (w:=w) (mg:=mg) (base:=base) hA' z_list z_enumerate
 have cM':=lR' (P:=l.prog) (w:=w) (mg:=mg) (base:=base) fX'
 have ad':=mI' (P:=l.prog) (w:=w) (mg:=mg) (base:=base) b5' ⟨cM',m5',fX'.kp,m4'⟩ z_len
 have bH':=oo' (P:=l.prog) (w:=w) (mg:=mg) (base:=base) hB' ⟨ad',dq',b5'.kp,dp'⟩ z_list z_range z_len z_min z_max z_sorted z_tuple
 have dn':=mM' (P:=l.prog) (w:=w) (mg:=mg) (base:=base) gB' ⟨ad',dq',b5'.kp,dp'⟩ z_range z_min z_max z_tuple
 have cf':=kE' (P:=l.prog) (w:=w) (mg:=mg) (base:=base) fu' ⟨ad',dq',b5'.kp,dp'⟩ z_len z_max z_min
 have ch':=kC' (P:=l.prog) (w:=w) (mg:=mg) (base:=base) ft' ⟨ad',dq',b5'.kp,dp'⟩ ⟨dn',oQ',gB'.kp,oP'⟩ ⟨cf',mq',fu'.kp,mp'⟩ z_min z_range z_len
 have cN':=lT' (P:=l.prog) (w:=w) (mg:=mg) (base:=base) fY' ⟨ch',mo',ft'.kp,mn'⟩ ⟨ad',dq',b5'.kp,dp'⟩
 have al':=jw' (P:=l.prog) (w:=w) (mg:=mg) (base:=base) bC' z_len
 have bc':=pQ' (P:=l.prog) (w:=w) (mg:=mg) (base:=base) gy' ⟨al',cC',bC'.kp,cB'⟩ z_zip z_all
 have bf':=gE' (P:=l.prog) (w:=w) (mg:=mg) (base:=base) c2' ⟨bc',ml',gy'.kp,mj'⟩ z_any
 have bl':=og' (P:=l.prog) (w:=w) (mg:=mg) (base:=base) fD' ⟨al',cC',bC'.kp,cB'⟩ ⟨bf',ht',c2'.kp,hh'⟩ z_sorted z_set
 have bs':=lL' (P:=l.prog) (w:=w) (mg:=mg) (base:=base) fV' ⟨al',cC',bC'.kp,cB'⟩ z_zip z_max z_min z_tuple
 have a4':=iX' (P:=l.prog) (w:=w) (mg:=mg) (base:=base) eo' z_enumerate z_min
 have bt':=lN' (P:=l.prog) (w:=w) (mg:=mg) (base:=base) fW'
 have bo':=(eN' (P:=l.prog) (w:=w) (mg:=mg) (base:=base) cw' ⟨bs',m1',fV'.kp,m0'⟩ ⟨bc',ml',gy'.kp,mj'⟩ ⟨a4',jO',eo'.kp,jN'⟩ ⟨bt',m3',fW'.kp,m2'⟩ z_len z_tuple aZ' cw'.kp a0') 40
 have dU':=oi' (P:=l.prog) (w:=w) (mg:=mg) (base:=base) hu' ⟨al',cC',bC'.kp,cB'⟩ ⟨bo',aZ',cw'.kp,a0'⟩ z_len z_list z_range
 have dl':=mA' (P:=l.prog) (w:=w) (mg:=mg) (base:=base) gz' ⟨bl',ku',fD'.kp,kt'⟩ ⟨dU',qg',hu'.kp,qf'⟩
 have aU':=mC' (P:=l.prog) (w:=w) (mg:=mg) (base:=base) e2' ⟨dl',oM',gz'.kp,oL'⟩ ⟨bl',ku',fD'.kp,kt'⟩
 have a9':=(h6' (P:=l.prog) (w:=w) (mg:=mg) (base:=base) d9' z_isinstance z_bool z_str z_int z_list z_tuple z_len z_zip b3' d9'.kp b4') 8
 have aV':=om' (P:=l.prog) (w:=w) (mg:=mg) (base:=base) fI' z_zip
 have cg':=kG' (P:=l.prog) (w:=w) (mg:=mg) (base:=base) fv' ⟨aV',kx',fI'.kp,kw'⟩ z_tuple
 have a8':=mO' (P:=l.prog) (w:=w) (mg:=mg) (base:=base) e5' ⟨cg',ms',fv'.kp,mr'⟩ z_sorted
 have bT':=jy' (P:=l.prog) (w:=w) (mg:=mg) (base:=base) eL' z_range
 have bU':=jA' (P:=l.prog) (w:=w) (mg:=mg) (base:=base) eM' ⟨bT',kT',eL'.kp,kS'⟩ ⟨aV',kx',fI'.kp,kw'⟩
 have aS':=lV' (P:=l.prog) (w:=w) (mg:=mg) (base:=base) ew' ⟨a8',jc',e5'.kp,jb'⟩ ⟨bU',kV',eM'.kp,kU'⟩ z_len
 have aK':=kI' (P:=l.prog) (w:=w) (mg:=mg) (base:=base) ea' z_sorted
 have bV':=(f8' (P:=l.prog) (w:=w) (mg:=mg) (base:=base) dH' ⟨aK',hD',ea'.kp,hC'⟩ ⟨aS',if',ew'.kp,ie'⟩ bA' dH'.kp bB') 20
 have ci':=kK' (P:=l.prog) (w:=w) (mg:=mg) (base:=base) fw' ⟨aK',hD',ea'.kp,hC'⟩ z_sorted
 have aR':=lP' (P:=l.prog) (w:=w) (mg:=mg) (base:=base) ev'
 have as':=ix' (P:=l.prog) (w:=w) (mg:=mg) (base:=base) cO'
 have ax':=iz' (P:=l.prog) (w:=w) (mg:=mg) (base:=base) cP' ⟨as',fF',cO'.kp,fE'⟩ z_sorted
 have bL':=iZ' (P:=l.prog) (w:=w) (mg:=mg) (base:=base) er' ⟨as',fF',cO'.kp,fE'⟩ ⟨ax',fH',cP'.kp,fG'⟩
 have dm':=(h5' (P:=l.prog) (w:=w) (mg:=mg) (base:=base) e4' ⟨aR',ic',ev'.kp,ib'⟩ ⟨ax',fH',cP'.kp,fG'⟩ ⟨aU',ja',e2'.kp,i9'⟩ cu' e4'.kp cv') 20
 have do':=mE' (P:=l.prog) (w:=w) (mg:=mg) (base:=base) gA' ⟨al',cC',bC'.kp,cB'⟩ ⟨aR',ic',ev'.kp,ib'⟩ ⟨bL',jQ',er'.kp,jP'⟩ ⟨dm',cu',e4'.kp,cv'⟩
 have aG':=lX' (P:=l.prog) (w:=w) (mg:=mg) (base:=base) fZ' ⟨bV',bA',dH'.kp,bB'⟩ ⟨ci',mu',fw'.kp,mt'⟩ ⟨a8',jc',e5'.kp,jb'⟩ ⟨do',oO',gA'.kp,oN'⟩ ⟨a9',b3',d9'.kp,b4'⟩ z_list
 exact tK' (P:=l.prog) (w:=w) (mg:=mg) (base:=base) uP' ⟨dV',qi',hA'.kp,qh'⟩ ⟨bH',qk',hB'.kp,qj'⟩ ⟨cN',m7',fY'.kp,m6'⟩ ⟨ad',dq',b5'.kp,dp'⟩ ⟨aU',ja',e2'.kp,i9'⟩ ⟨a9',b3',d9'.kp,b4'⟩ ⟨aS',if',ew'.kp,ie'⟩ ⟨aG',m9',fZ'.kp,m8'⟩ z_range z_list
theorem walk {l:PySem.W.OpenLaw}{q:Program}{loose:List Str}{XP:(Str->Option Value)->Heap->Prop}{YP:World->Heap->Prop}{d:DefRec}{K:Params->PySem.W.Frag} (hlaw:∀ ns:List Int,ns.length<=63->∃ rs,gq' [.val (.lst (ns.map D.int))]=some (.val (.bl true),rs)) (hn:l.most=some 63) (hdf:d.params.defaults=[])
  (hY:∀ (w:World) (h:Heap),YP w h->(K w.params).In h)
  (F:∀ (w:World) (mg:Str->Option Value) (fa:Addr) (h:Heap),(K w.params).In h->h.Ns mainGlobals mg->mg d.name=some (.ref fa) →
   ∃ fd:FuncData,(∀ (s:Shared) (u:Value),BindsTo s fd ⟨[u],[]⟩ [("script", u)])/\∀ base:Heap,(K w.params).In base->base.Ns mainGlobals mg->FnOk l.prog w (K w.params) mg base CX0 73 fa fd ["script"] (spD (K w.params) gq')) :
  PySem.W.WalkO q loose XP YP l.row.toRowW d [] (fun f vs=>PySem.call f vs) :=
 qI' (n:=63) (k:=73) (x := "script") (CX:=fun _=>CX0) (sp:=fun w=>spD (K w.params) gq') hn (by decide) hdf ⟨rfl,by decide,by decide,rfl⟩ hY F (fun _ H a ns hl _ hS=>tq' hS (hlaw ns hl)) fun _ _ _ _ _ z=>z
end Own
namespace Own
open DL L2
def PotOk (c:List D):Prop:=∃ (ns:List Int) (at_ acc:Int),c=[.lst (ns.map .int),.int at_,.int acc]/\0<=at_
theorem qZ' (a b:Int):∃ z,cvF dx' [.int a,.int b]=some (.int z):=by
 have:wpF dx' [.val (.int a),.val (.int b)] fun r _=>∃ z,r=.val (.int z):=by
  refine dN' rfl fun KE hE _=>?_
  rw [fM']
  refine ae' ?_;rintro K hK hR
  simp
  split
  ·exact hR _ _ (hE _ _ ⟨_,rfl,_,rfl⟩)
  ·refine hK _ ?_;clear hK hR
   refine ae' ?_;rintro K hK -
   simp
   refine hK _ ?_;clear hK
   have l1:=Int.emod_nonneg (a % 998244353*40692+b*69621+1009) (show (2147483399:Int)≠0 by decide)
   have u1:=Int.emod_lt_of_pos (a % 998244353*40692+b*69621+1009) (show (0:Int) < 2147483399 by decide)
   generalize (a % 998244353*40692+b*69621+1009) % 2147483399=x at *
   refine ae' ?_;rintro K hK -
   simp
   refine ⟨by omega,hK _ ?_⟩;clear hK
   have l2:=Int.emod_nonneg (x*x+b*48271+a % 131071) (show (2147483647:Int)≠0 by decide)
   have u2:=Int.emod_lt_of_pos (x*x+b*48271+a % 131071) (show (0:Int) < 2147483647 by decide)
   generalize (x*x+b*48271+a % 131071) % 2147483647=y at *
   refine ae' ?_;rintro K hK -
   simp
   refine ⟨by omega,hK _ ?_⟩;clear hK
   generalize (y*y+x*17+3) % 2147483629=z at *
   simp
   exact hE _ _ ⟨_,rfl,_,rfl⟩
 obtain ⟨r,rs',e,z,rfl⟩:=this
 exact ⟨z,by unfold cvF;simp only [List.map];rw [e]⟩
theorem a2' {c:List D}{u:Int}{Q:R->List D->Prop} (hc:PotOk c) (h1:1<=u) (h2:u < 2 ^ 200) (k:∀ n c',0<=n->n < u->PotOk c'->Q (.val (.int n)) c'):wpB ap' c [.int u] Q:=by
 obtain ⟨ns,at_,acc,rfl,h0⟩:=hc
 refine e9' rfl fun KE hE _=>?_
 rw [gn']
 refine e8' (fun Γ1=>∃ at1 acc1 x y z,0<=at1/\Γ1=[some (.bor [.lst (ns.map .int),.int at1,.int acc1]),some (.val (.int u)),x,y,z]) (fun K hK _=>?_) ?_
 ·simp [isMut,R.mut]
  split
  ·refine ae' fun K1 hK1 _=>?_
   simp [isMut,R.mut]
   refine hK1 _ ?_
   refine ae' fun K1 hK1 _=>?_
   simp [isMut,R.mut]
   refine hK1 _ ?_
   refine e8' (fun Γ1=>∃ m,Γ1=[some (.bor [.lst (ns.map .int),.int at_,.int acc]),some (.val (.int u)),some (.val (.int at_)),some (.val (.int m)),none]) (fun K1 hK1 _=>?_) ?_
   ·simp [isMut,R.mut]
    split
    ·rename_i h
     obtain ⟨a,e,m⟩:=lE' (ds:=ns.map D.int) h0 (by simpa using h)
     obtain ⟨b,_,rfl⟩:=List.mem_map.mp m
     rw [gY' e]
     simp
     exact hK1 _ ⟨_,rfl⟩
    ·rename_i h
     split
     ·exact hK1 _ ⟨_,rfl⟩
     ·rename_i h'
      have hl:0 < ns.length:=by cases ns with | nil=>simp at h' | cons=>simp
      refine ⟨by omega,?_⟩
      obtain ⟨a,e,m⟩:=lE' (ds:=ns.map D.int) (i:=(at_*7+1) % (ns.length:Int)) (Int.emod_nonneg _ (by omega)) (by simpa using Int.emod_lt_of_pos _ (by omega))
      obtain ⟨b,_,rfl⟩:=List.mem_map.mp m
      rw [gY' e]
      simp
      exact ⟨by omega,hK1 _ ⟨_,rfl⟩⟩
   ·rintro Γ1 ⟨m,rfl⟩
    refine ae' fun K1 hK1 _=>?_
    simp [isMut,R.mut]
    refine hK1 _ ?_
    obtain ⟨z,e⟩:=qZ' m at_
    simp [isMut,R.mut,e]
    exact hK _ ⟨_,_,_,_,_,by omega,rfl⟩
  ·exact hK _ ⟨_,_,_,_,_,h0,rfl⟩
 ·rintro Γ1 ⟨at1,acc1,x,y,z,h3,rfl⟩
  refine ae' ?_;rintro K hK -
  simp [isMut,R.mut]
  refine ⟨by omega,hK _ ?_⟩;clear hK
  refine ae' ?_;rintro K hK -
  simp [isMut,R.mut]
  refine ⟨⟨by omega,by simpa using h2⟩,hK _ ?_⟩;clear hK
  simp
  exact hE _ _ _ ⟨_,rfl⟩ (k _ _ (Int.emod_nonneg _ (by omega)) (Int.emod_lt_of_pos _ (by omega)) ⟨_,_,_,rfl,h3⟩)
theorem fh' {xs:List D}{m i:Nat}{d:D} (h:(numD m xs)[i]?=some d):∃ x,xs[i]?=some x/\d=.tup [.int ((m+i:Nat):Int),x]:=by
 induction xs generalizing m i with
 | nil=>simp [numD] at h
 | cons a xs ih =>
  cases i with
  | zero=>simp [numD] at h;exact ⟨a,rfl,h.symm⟩
  | succ i =>
   simp only [numD,List.getElem?_cons_succ] at h
   obtain ⟨x,e1,e2⟩:=ih h
   exact ⟨x,by simpa using e1,by rw [e2,show m+1+i=m+(i+1) from by omega]⟩
theorem nA' {α:Type}{f:α->D}{xs:List α}{lo hi:Option Int}:∃ ys:List α,cutD (xs.map f) lo hi=ys.map f/\(∀ y∈ys,y∈xs)/\ys.length=min (HT.sIx xs.length xs.length hi - HT.sIx xs.length 0 lo) (xs.length - HT.sIx xs.length 0 lo):=by
 refine ⟨(xs.drop (HT.sIx xs.length 0 lo)).take (HT.sIx xs.length xs.length hi - HT.sIx xs.length 0 lo),?_,?_,?_⟩
 ·unfold cutD
  simp [List.map_drop,List.map_take]
 ·intro y h
  exact List.mem_of_mem_drop (List.mem_of_mem_take h)
 ·simp
theorem tL' (ns:List Int):∃ d,coF eE' [.lst (ns.map .int)]=some d/\PotOk d:=by
 refine tE' ?_
 unfold eE'
 refine nw' rfl ?_
 rw [g1']
 refine ae' fun K hK _=>?_
 simp
 refine hK _ ?_
 obtain ⟨cs,e,-,hl⟩:=nA' (f:=D.int) (xs:=ns) (lo:=none) (hi:=some 12)
 rw [e]
 have hl2:cs.length=min 12 ns.length:=by
  rw [hl];simp [HT.sIx]
 refine e8' (fun Γ1=>∃ cs,∃ x y z,Γ1=[x,some (.own (List.map D.int cs)),y,z]) (fun K hK _=>?_) ?_
 ·simp
  obtain ⟨ms,e,-,hm⟩:=nA' (f:=D.int) (xs:=ns) (lo:=some 12) (hi:=some 63)
  rw [e]
  refine nv' (J:=fun i Γ=>∃ cs:List Int,∃ y z,cs.length=min 12 ns.length/\Γ=[some (.val (.lst (ns.map .int))),some (.own (cs.map .int)),y,z]) ⟨cs,_,_,hl2,rfl⟩ ?_ ?_
  ·rintro i d Γ hd ⟨cs,y,z,hc,rfl⟩
   obtain ⟨x,e1,rfl⟩:=fh' hd
   rw [List.getElem?_map,Option.map_eq_some_iff] at e1
   obtain ⟨n,e1,rfl⟩:=e1
   have hi:i < ms.length:=(List.getElem?_eq_some_iff.mp e1).1
   have h12:12 < ns.length:=by
    simp [HT.sIx] at hm
    omega
   simp [isMut,R.mut]
   have hcc:cs.length=12:=by omega
   have hix:((i:Int) % 12)=((i % 12:Nat):Int):=by omega
   rw [hix]
   have hlt:i % 12 < cs.length:=by omega
   rw [gY' (a:=D.int cs[i % 12]) (by rw [iV'];simp [hlt])]
   simp
   refine ⟨(cs.set (i % 12) (cs[i % 12]+n)).map .int,?_,?_⟩
   ·unfold stF L2.ixN
    rw [if_pos (by omega),if_pos (by simp;omega),show ((i:Int) % 12).toNat=i % 12 from by omega]
    simp
   ·exact ⟨cs.set (i % 12) (cs[i % 12]+n),by simpa using hc,by simp⟩
  ·rintro Γ ⟨cs,y,z,hc,rfl⟩
   exact hK _ ⟨cs,_,_,_,rfl⟩
 ·rintro Γ1 ⟨cs,x,y,z,rfl⟩
  simp [flR,fin]
  exact ⟨cs,0,0,rfl,by omega⟩
def pairD (p:Int×Int):D:=.tup [.int p.1,.int p.2]
def wishD (w:List (Int×Int)):D:=.tup (w.map pairD)
def letD (l:List Int):D:=.tup (l.map .int)
structure PairOk (p:Int×Int):Prop where
 lo:0<=p.1
 le:p.1<=p.2
 hi:p.2<=9
structure Wf (n:Nat) (w:List (Int×Int)):Prop where
 len:w.length=n
 all:∀ p∈w,PairOk p
theorem gr' {lo:Int}{n i:Nat}{d:D} (h:(rngD lo n)[i]?=some d):d=.int (lo+i)/\i < n:=by
 unfold rngD at h
 rw [List.getElem?_map,Option.map_eq_some_iff] at h
 obtain ⟨k,h1,rfl⟩:=h
 obtain ⟨h2,h3⟩:=List.getElem?_eq_some_iff.mp h1
 rw [List.getElem_range] at h3
 subst h3
 exact ⟨rfl,by simpa using h2⟩
@[simp] theorem iA' {lo:Int}{n:Nat}:(rngD lo n).length=n:=by simp [rngD]
theorem Wf.app {n:Nat}{w:List (Int×Int)} (h:Wf n w){p:Int×Int} (hp:PairOk p):Wf (n+1) (w++[p]):=by
 refine ⟨by simp [h.len],fun q hq=>?_⟩
 rcases List.mem_append.mp hq with h1 | h1
 ·exact h.all q h1
 ·rw [List.mem_singleton.mp h1];exact hp
theorem sm' {c:List D}{f:Nat}{low top:Int}{Q:R->List D->Prop} (hc:PotOk c) (hf:f<=100) (h1:0<=low) (h2:1<=top) (h3:low+top<=10) (k:∀ w c',Wf f w->PotOk c'->Q (.val (wishD w)) c'):wpB eV' c [.int f,.int low,.int top] Q:=by
 refine e9' rfl fun KE hE _=>?_
 rw [go']
 refine ae' ?_;rintro K hK -
 refine ⟨_,_,rfl,hK _ ?_⟩;clear hK
 show wp _ [some (.bor c),some (.val (.int f)),some (.val (.int low)),some (.val (.int top)),some (.own []),none,none,none] _
 refine ae' ?_;rintro K hK -
 simp
 refine ⟨by omega,?_⟩
 refine aT' (J:=fun i Γ=>∃ c w x y z,PotOk c/\Wf i w/\Γ=[some (.bor c),some (.val (.int f)),some (.val (.int low)),some (.val (.int top)),some (.own (w.map pairD)),x,y,z]) ⟨c,[],_,_,_,hc,⟨rfl,by simp⟩,rfl⟩ ?_ ?_
 ·rintro i d Γ hd ⟨c,w,x,y,z,hc,hw,rfl⟩ KL hnx - - -
  obtain ⟨rfl,hi⟩:=gr' hd
  simp
  refine ae' ?_;rintro K hK -
  simp [isMut,R.mut]
  refine a2' hc h2 (by omega) fun n c' hn1 hn2 hc'=>?_
  simp
  refine hK _ ?_;clear hK
  refine ae' ?_;rintro K hK -
  simp [isMut,R.mut]
  refine a2' hc' h2 (by omega) fun m c'' hm1 hm2 hc''=>?_
  simp
  refine hK _ ?_;clear hK
  simp [isMut,R.mut]
  refine ⟨by have:=hw.len;omega,hnx _ ?_⟩
  exact ⟨_,w++[(low+min n m,low+max n m)],_,_,_,hc'',hw.app ⟨by simp;omega,by simp;omega,by simp;omega⟩,by rw [List.map_append];rfl⟩
 ·rintro Γ ⟨c,w,x,y,z,hc,hw,rfl⟩
  refine hK _ ?_;clear hK
  rw [iA'] at hw
  simp
  exact hE _ _ _ ⟨_,rfl⟩ (k w c hw hc)
theorem pR' {c:List D}{f:Nat}{w:List (Int×Int)}{Q:R->List D->Prop} (hc:PotOk c) (hw:Wf f w) (h0:1<=f) (hf:f<=100) (k:∀ w c',Wf f w->PotOk c'->Q (.val (wishD w)) c'):wpB d0' c [wishD w] Q:=by
 refine e9' rfl fun KE hE _=>?_
 rw [fi']
 refine ae' ?_;rintro K hK -
 simp [isMut,R.mut,wishD]
 refine a2' hc (by rw [hw.len];omega) (by rw [hw.len];omega) fun n c' hn1 hn2 hc'=>?_
 simp
 refine hK _ ?_;clear hK
 obtain ⟨n,rfl⟩:=Int.eq_ofNat_of_zero_le hn1
 have hn:n < w.length:=by omega
 obtain ⟨p,hp⟩:∃ p,w[n]?=some p:=⟨_,List.getElem?_eq_getElem hn⟩
 have hpo:PairOk p:=hw.all p (List.mem_of_getElem? hp)
 have e1:atI (w.map pairD) (n:Int)=some (pairD p):=by rw [DL.iV'];simp [hp]
 refine ae' ?_;rintro K hK -
 simp [e1]
 simp [pairD]
 refine hK _ ?_;clear hK
 refine ae' ?_;rintro K hK -
 refine ⟨_,_,rfl,hK _ ?_⟩;clear hK
 show wp _ [some (R.bor c'),some (R.val (D.tup (w.map pairD))),some (.val (.int n)),some (.val (.int p.1)),some (.val (.int p.2)),some (.val (.lst [D.tup [.int (if p.1 - 1 > 0 then p.1 - 1 else 0),.int p.2],.tup [.int p.1,.int (if p.2+1 < 9 then p.2+1 else 9)],.tup [.int (if p.2 < p.1+1 then p.2 else p.1+1),.int p.2],.tup [.int p.1,.int (if p.2 - 1 > p.1 then p.2 - 1 else p.1)]]))] _
 have key:∀ m:Int,0<=m->m < 4->∃ q,PairOk q/\atI [D.tup [.int (if p.1 - 1 > 0 then p.1 - 1 else 0),.int p.2],.tup [.int p.1,.int (if p.2+1 < 9 then p.2+1 else 9)],.tup [.int (if p.2 < p.1+1 then p.2 else p.1+1),.int p.2],.tup [.int p.1,.int (if p.2 - 1 > p.1 then p.2 - 1 else p.1)]] m=some (pairD q):=fun m hm1 hm2=>by
  have:=hpo.lo;have:=hpo.le;have:=hpo.hi
  have:m=0\/m=1\/m=2\/m=3:=by omega
  rcases this with rfl | rfl | rfl | rfl
  ·exact ⟨(if p.1 - 1 > 0 then p.1 - 1 else 0,p.2),⟨by dsimp only;split<;>omega,by dsimp only;split<;>omega,by dsimp only;omega⟩,rfl⟩
  ·exact ⟨(p.1,if p.2+1 < 9 then p.2+1 else 9),⟨by dsimp only;omega,by dsimp only;split<;>omega,by dsimp only;split<;>omega⟩,rfl⟩
  ·exact ⟨(if p.2 < p.1+1 then p.2 else p.1+1,p.2),⟨by dsimp only;split<;>omega,by dsimp only;split<;>omega,by dsimp only;omega⟩,rfl⟩
  ·exact ⟨(p.1,if p.2 - 1 > p.1 then p.2 - 1 else p.1),⟨by dsimp only;omega,by dsimp only;split<;>omega,by dsimp only;split<;>omega⟩,rfl⟩
 generalize [D.tup [.int (if p.1 - 1 > 0 then p.1 - 1 else 0),.int p.2],.tup [.int p.1,.int (if p.2+1 < 9 then p.2+1 else 9)],.tup [.int (if p.2 < p.1+1 then p.2 else p.1+1),.int p.2],.tup [.int p.1,.int (if p.2 - 1 > p.1 then p.2 - 1 else p.1)]]=ps at key ⊢
 have e2:slF (.tup (w.map pairD)) none (some (n:Int))=some (.tup ((w.map pairD).take n)):=ny' (by simpa using hn)
 have e3:slF (.tup (w.map pairD)) (some ((n:Int)+1)) none=some (.tup ((w.map pairD).drop (n+1))):=nz' (n:=n+1) (by simp;omega) (by omega)
 simp [isMut,R.mut,e2]
 refine a2' hc' (by omega) (by omega) fun m c'' hm1 hm2 hc''=>?_
 obtain ⟨q,hq,eq⟩:=key m hm1 hm2
 simp [eq,e3]
 refine ⟨by have:=hw.len;omega,by have:=hw.len;omega,hE _ _ _ ⟨_,rfl⟩ ?_⟩
 have:=k (w.take n++[q]++w.drop (n+1)) c'' ⟨by have:=hw.len;simp;omega,fun r hr=>?_⟩ hc''
 ·simpa [wishD,List.map_take,List.map_drop] using this
 ·simp at hr
  rcases hr with h | h | h
  ·exact hw.all r (List.mem_of_mem_take h)
  ·rw [h];exact hq
  ·exact hw.all r (List.mem_of_mem_drop h)
theorem nB' {α:Type}{f:α->D}{xs:List α}{i:Int} (h0:0<=i) (h1:i < xs.length):∃ x,x∈xs/\atI (xs.map f) i=some (f x):=by
 obtain ⟨a,e,m⟩:=lE' (ds:=xs.map f) h0 (by simpa using h1)
 obtain ⟨b,hb,rfl⟩:=List.mem_map.mp m
 exact ⟨b,hb,e⟩
theorem dh' {ds:List D}{n:Nat} (h:∀ d∈ds,dep d<=n):depA ds<=n:=by
 induction ds with
 | nil=>simp [depA]
 | cons d ds ih =>
  rw [depA]
  have h1:=h d List.mem_cons_self
  have h2:=ih fun d hd=>h d (List.mem_cons_of_mem _ hd)
  omega
theorem ek' {w:List (Int×Int)}:dep (wishD w)<=2:=by
 unfold wishD
 rw [dep]
 have:depA (w.map pairD)<=1:=dh' fun d hd=>by
  obtain ⟨p,_,rfl⟩:=List.mem_map.mp hd
  unfold pairD
  simp [dep,depA]
 omega
theorem pS' {c:List D}{f:Nat}{most:Int}{Q:R->List D->Prop} (hc:PotOk c) (h0:1<=f) (hf:f<=3) (h1:0<=most) (h2:most<=100) (k:∀ (ws:List (List (Int×Int))) c',(∀ w∈ws,Wf f w)->(ws.length:Int)<=most->PotOk c'->Q (.val (.lst (ws.map wishD))) c'):wpB d1' c [.int f,.int most] Q:=by
 refine e9' rfl fun KE hE _=>?_
 rw [fj']
 refine ae' ?_;rintro K hK -
 simp [isMut,R.mut]
 refine a2' hc (by omega) (by omega) fun n c' hn1 hn2 hc'=>?_
 simp
 have e1:∃ t:Int,1<=t/\t<=10/\atI [D.int 2,D.int 3,D.int 4,D.int 10] n=some (.int t):=by
  have:n=0\/n=1\/n=2\/n=3:=by omega
  rcases this with rfl | rfl | rfl | rfl
  ·exact ⟨2,by omega,by omega,rfl⟩
  ·exact ⟨3,by omega,by omega,rfl⟩
  ·exact ⟨4,by omega,by omega,rfl⟩
  ·exact ⟨10,by omega,by omega,rfl⟩
 obtain ⟨t,ht1,ht2,e1⟩:=e1
 have e2:∃ t:Int,1<=t/\t<=10/\atI [D.int 10,D.int 10,D.int 5,D.int 4] (f:Int)=some (.int t):=by
  have:f=1\/f=2\/f=3:=by omega
  rcases this with rfl | rfl | rfl
  ·exact ⟨10,by omega,by omega,rfl⟩
  ·exact ⟨5,by omega,by omega,rfl⟩
  ·exact ⟨4,by omega,by omega,rfl⟩
 obtain ⟨t',ht1',ht2',e2⟩:=e2
 simp [e1,e2]
 refine hK _ ?_;clear hK
 refine ae' ?_;rintro K hK -
 simp [isMut,R.mut]
 refine a2' hc' (by omega) (by omega) fun low c' hl1 hl2 hc'=>?_
 simp
 refine hK _ ?_;clear hK
 refine ae' ?_;rintro K hK -
 simp
 refine hK _ ?_;clear hK
 refine ae' ?_;rintro K hK -
 simp [isMut,R.mut]
 refine a2' hc' (by omega) (by omega) fun many c' hm1 hm2 hc'=>?_
 simp
 refine ⟨by omega,?_⟩
 refine aT' (J:=fun i Γ=>∃ (c:List D) (ws:List (List (Int×Int))) (x y z:Option R),PotOk c/\(∀ w∈ws,Wf f w)/\ws.length=i/\Γ=[some (.bor c),some (.val (.int f)),some (.val (.int most)),some (.val (.int (min t t'))),some (.val (.int low)),some (.own (ws.map wishD)),x,y,z]) ⟨c',[],_,_,_,hc',by simp,rfl,rfl⟩ ?_ ?_
 ·rintro i d Γ hd ⟨c,ws,x,y,z,hc,hws,hi,rfl⟩ KL hnx - - -
  obtain ⟨rfl,hi2⟩:=gr' hd
  simp
  refine ae' ?_;rintro K hK -
  simp [isMut,R.mut]
  refine a2' hc (by omega) (by omega) fun way c' hw1 hw2 hc'=>?_
  simp
  refine hK _ ?_;clear hK
  refine ae' ?_;rintro K hK -
  simp [isMut,R.mut]
  refine sm' hc' (by omega) hl1 (by omega) (by omega) fun w c' hw hc'=>?_
  simp
  refine hK _ ?_;clear hK
  refine e8' (fun Γ=>∃ (c:List D) (w:List (Int×Int)) (x:Option R),PotOk c/\Wf f w/\Γ=[some (.bor c),some (.val (.int f)),some (.val (.int most)),some (.val (.int (min t t'))),some (.val (.int low)),some (.own (ws.map wishD)),x,some (.val (.int way)),some (.val (wishD w))]) ?_ ?_
  ·rintro K hK -
   simp [isMut,R.mut]
   split
   ·split
    ·exact hK _ ⟨_,_,_,hc',hw,rfl⟩
    ·rename_i hne
     have hpos:0 < ws.length:=List.length_pos_iff.mpr hne
     refine a2' hc' (by omega) (by omega) fun n c' hn1 hn2 hc'=>?_
     obtain ⟨w',hw',e⟩:=nB' (f:=wishD) hn1 hn2
     simp [e]
     exact hK _ ⟨_,_,_,hc',hws _ hw',rfl⟩
   ·exact hK _ ⟨_,_,_,hc',hw,rfl⟩
  ·rintro Γ ⟨c,w,x,hc,hw,rfl⟩
   refine e8' (fun Γ=>∃ (c:List D) (w:List (Int×Int)) (x y:Option R),PotOk c/\Wf f w/\Γ=[some (.bor c),some (.val (.int f)),some (.val (.int most)),some (.val (.int (min t t'))),some (.val (.int low)),some (.own (ws.map wishD)),x,y,some (.val (wishD w))]) ?_ ?_
   ·rintro K hK -
    simp [isMut,R.mut]
    split
    ·split
     ·exact hK _ ⟨_,_,_,_,hc,hw,rfl⟩
     ·rename_i hne
      have hpos:0 < ws.length:=List.length_pos_iff.mpr hne
      refine a2' hc (by omega) (by omega) fun n c' hn1 hn2 hc'=>?_
      obtain ⟨w',hw',e⟩:=nB' (f:=wishD) hn1 hn2
      simp [e]
      refine pR' hc' (hws _ hw') h0 (by omega) fun w c' hw hc'=>?_
      simp
      exact hK _ ⟨_,_,_,_,hc',hw,rfl⟩
    ·exact hK _ ⟨_,_,_,_,hc,hw,rfl⟩
   ·rintro Γ ⟨c,w,x,y,hc,hw,rfl⟩
    simp [isMut,R.mut]
    refine ⟨by omega,hnx _ ⟨_,ws++[w],_,_,_,hc,fun v hv=>?_,by simp;omega,by rw [List.map_append];rfl⟩⟩
    rcases List.mem_append.mp hv with h | h
    ·exact hws v h
    ·rw [List.mem_singleton.mp h];exact hw
 ·rintro Γ ⟨c,ws,x,y,z,hc,hws,hi,rfl⟩
  refine hK _ ?_
  rw [iA'] at hi
  simp
  exact hE _ _ _ ⟨_,rfl⟩ (k ws c hws (by omega) hc)
def hasB (w:List (Int×Int)) (l:List Int):Bool:=(w.zip l).all fun q=>decide (q.1.1<=q.2)&&decide (q.2<=q.1.2)
def covB (a b:List (Int×Int)):Bool:=(a.zip b).all fun q=>decide (q.1.1<=q.2.1)&&decide (q.2.2<=q.1.2)
@[simp] theorem uS' {α:Type}{xs:List α}:List.filter (fun _=>true) xs=xs:=by
 induction xs with
 | nil=>rfl
 | cons x xs ih=>simp
@[simp] theorem wE' {p:Int×Int}:ixF (pairD p) (.int 0)=some (.int p.1):=rfl
@[simp] theorem wF' {p:Int×Int}:ixF (pairD p) (.int 1)=some (.int p.2):=rfl
def SzK:Nat->D->Prop
 | 0,_=>False
 | k+1,.tup ds=>ds.length<=1000000/\∀ d∈ds,SzK k d
 | k+1,.lst ds=>ds.length<=1000000/\∀ d∈ds,SzK k d
 | _+1,_=>True
@[simp ↓] theorem wl' {α:Type}{F:D->Option α}{g:M D}{Γ:Gm}{Q:α->Gm->Prop}:wp (un1 F g) Γ Q↔wp g Γ fun d Γ1=>wp (lft (F d)) Γ1 Q:=by simp [un1]
@[simp] theorem wG' {k:Ki}{d:D}:isiF k d=some (.bl (isiB k d)):=rfl
@[simp] theorem wH' {i:Int}:negI (.int i)=some (.int (-i)):=rfl
@[simp] theorem wI' {b:Bool}{d:D}:isNF b d .non=some (.bl (if b then !isN d else isN d)):=rfl
@[simp ↓] theorem wm' {neg:Bool}{a:D}{ds:List D}{Γ:Gm}{QD:D->Gm->Prop}:wp (lft (inF neg a (.lst ds))) Γ QD↔dep a<=99/\QD (.bl (if neg then !ds.any (fun d=>deq d a) else ds.any fun d=>deq d a)) Γ:=by
 simp only [inF,tG',bZ']
@[simp] theorem ul':isiB .iT .non=false:=rfl
@[simp] theorem uT' {x:Bool}:isiB .iT (.bl x)=true:=rfl
@[simp] theorem um' {x:Int}:isiB .iT (.int x)=true:=rfl
@[simp] theorem un' {x:PySem.Str}:isiB .iT (.str x)=false:=rfl
@[simp] theorem uo' {x:List D}:isiB .iT (.tup x)=false:=rfl
@[simp] theorem up' {x:List D}:isiB .iT (.lst x)=false:=rfl
@[simp] theorem uq':isiB .sT .non=false:=rfl
@[simp] theorem uU' {x:Bool}:isiB .sT (.bl x)=false:=rfl
@[simp] theorem ur' {x:Int}:isiB .sT (.int x)=false:=rfl
@[simp] theorem ut' {x:PySem.Str}:isiB .sT (.str x)=true:=rfl
@[simp] theorem uu' {x:List D}:isiB .sT (.tup x)=false:=rfl
@[simp] theorem uv' {x:List D}:isiB .sT (.lst x)=false:=rfl
@[simp] theorem uw':isiB .bT .non=false:=rfl
@[simp] theorem uV' {x:Bool}:isiB .bT (.bl x)=true:=rfl
@[simp] theorem ux' {x:Int}:isiB .bT (.int x)=false:=rfl
@[simp] theorem uy' {x:PySem.Str}:isiB .bT (.str x)=false:=rfl
@[simp] theorem uz' {x:List D}:isiB .bT (.tup x)=false:=rfl
@[simp] theorem uA' {x:List D}:isiB .bT (.lst x)=false:=rfl
@[simp] theorem uB':isiB .tT .non=false:=rfl
@[simp] theorem uW' {x:Bool}:isiB .tT (.bl x)=false:=rfl
@[simp] theorem uC' {x:Int}:isiB .tT (.int x)=false:=rfl
@[simp] theorem uD' {x:PySem.Str}:isiB .tT (.str x)=false:=rfl
@[simp] theorem uE' {x:List D}:isiB .tT (.tup x)=true:=rfl
@[simp] theorem uF' {x:List D}:isiB .tT (.lst x)=false:=rfl
@[simp] theorem uG':isiB .lT .non=false:=rfl
@[simp] theorem uX' {x:Bool}:isiB .lT (.bl x)=false:=rfl
@[simp] theorem uH' {x:Int}:isiB .lT (.int x)=false:=rfl
@[simp] theorem uI' {x:PySem.Str}:isiB .lT (.str x)=false:=rfl
@[simp] theorem uJ' {x:List D}:isiB .lT (.tup x)=false:=rfl
@[simp] theorem uK' {x:List D}:isiB .lT (.lst x)=true:=rfl
theorem i0' {xs:List D}:pairsD xs xs=xs.map fun x=>.tup [x,x]:=by
 unfold pairsD
 induction xs with
 | nil=>rfl
 | cons x xs ih=>simp only [List.zip_cons_cons,List.map_cons,ih]
theorem hP':∀ {k:Nat}{d:D},SzK k d->cvF (a6' k) [d,d]=some (.bl true)
 | 0,_,h=>h.elim
 | k+1,d,h=>by
  rw [a6']
  cases d with
  | non=>rfl
  | bl b=>cases b<;>rfl
  | int i =>
   have e:cvF (fnD 2 2 (cq' (a6' k))) [.int i,.int i]=some (.bl (i == i)):=rfl
   rw [e,beq_self_eq_true]
  | str i =>
   have e:cvF (fnD 2 2 (cq' (a6' k))) [.str i,.str i]=some (.bl (i == i)):=rfl
   rw [e,beq_self_eq_true]
  | tup ds =>
   obtain ⟨h1,h2⟩:=h
   refine bD' rfl fun KE k1 _=>?_
   rw [cq']
   refine ae' ?_;rintro K hK -
   refine ⟨_,_,rfl,hK _ ?_⟩;clear hK
   refine ae' ?_;rintro K hK -
   refine ⟨_,_,rfl,hK _ ?_⟩;clear hK
   refine ae' ?_;rintro K hK -
   refine ⟨_,_,rfl,hK _ ?_⟩;clear hK
   refine ae' ?_;rintro K hK -
   refine ⟨_,_,rfl,hK _ ?_⟩;clear hK
   refine ae' ?_;rintro K hK -
   simp
   refine hK _ ?_;clear hK
   simp
   refine dK' ds (fun x=>.tup [x,x]) (fun _=>true) (fun _=>.bl true) ?_
   simp [i0']
   refine ⟨h1,fun x hx=>?_,?_⟩
   ·simp [hP' (h2 x hx)]
   ·have e:ds.any ((fun d=>deq d (D.bl false))∘fun x=>D.bl true)=false:=by simp [Function.comp_def]
    rw [e]
    exact k1 _ ⟨_,rfl⟩
  | lst ds =>
   obtain ⟨h1,h2⟩:=h
   refine bD' rfl fun KE k1 _=>?_
   rw [cq']
   refine ae' ?_;rintro K hK -
   refine ⟨_,_,rfl,hK _ ?_⟩;clear hK
   refine ae' ?_;rintro K hK -
   refine ⟨_,_,rfl,hK _ ?_⟩;clear hK
   refine ae' ?_;rintro K hK -
   refine ⟨_,_,rfl,hK _ ?_⟩;clear hK
   refine ae' ?_;rintro K hK -
   refine ⟨_,_,rfl,hK _ ?_⟩;clear hK
   refine ae' ?_;rintro K hK -
   simp
   refine hK _ ?_;clear hK
   simp
   refine dK' ds (fun x=>.tup [x,x]) (fun _=>true) (fun _=>.bl true) ?_
   simp [i0']
   refine ⟨h1,fun x hx=>?_,?_⟩
   ·simp [hP' (h2 x hx)]
   ·have e:ds.any ((fun d=>deq d (D.bl false))∘fun x=>D.bl true)=false:=by simp [Function.comp_def]
    rw [e]
    exact k1 _ ⟨_,rfl⟩
theorem i1' {n:Nat}{ds:List D} (h:∀ d∈ds,∃ xs:List D,d=.tup xs/\xs.length=n):cvF aE' [.lst ds]=some .non:=by
 refine bD' rfl fun K _ k2=>?_
 rw [eI']
 simp
 refine aT' (J:=fun i Γ=>∃ x,Γ=[some (.val (.lst ds)),x]) ⟨_,rfl⟩ ?_ ?_
 ·rintro i d Γ hd ⟨x,rfl⟩ KL hnx - - -
  obtain ⟨xs,rfl,hx⟩:=h d (List.mem_of_getElem? hd)
  cases ds with
  | nil=>simp at hd
  | cons d0 ds =>
   obtain ⟨ys,rfl,hy⟩:=h d0 List.mem_cons_self
   simp [hx,hy]
   exact hnx _ ⟨_,rfl⟩
 ·rintro Γ ⟨x,rfl⟩
  exact k2 _ rfl ⟨_,rfl⟩
theorem nC' {a b:List D} (h:a.length=b.length):cvF aE' [.lst [.tup a,.tup b]]=some .non :=
 i1' (n:=a.length) (by simp [h])
theorem kh' {a b:List (Int×Int)} (h:a.length=b.length) (hl:a.length<=1000):cvF dL' [wishD a,wishD b]=some (.bl (covB a b)):=by
 refine bD' rfl fun K k1 _=>?_
 rw [iv']
 refine ae' ?_;rintro K hK -
 simp [wishD,nC',h]
 refine hK _ ?_;clear hK
 simp
 refine dK' (a.zip b) (fun q=>.tup [pairD q.1,pairD q.2]) (fun _=>true) (fun q=>.bl (decide (q.1.1<=q.2.1)&&decide (q.2.2<=q.1.2))) ?_
 simp [gj']
 refine ⟨by omega,?_,?_⟩
 ·rintro a b n m hm
  split<;>omega
 ·rw [qX']
  simp
  exact k1 _ ⟨_,rfl⟩
theorem oq' {w:List (Int×Int)}{l:List Int}:(List.filter (fun q:Int×(Int×Int)=>decide (q.1 < q.2.1)||decide (q.2.2 < q.1)) (l.zip w)).isEmpty=hasB w l:=by
 unfold hasB
 induction l generalizing w with
 | nil=>simp
 | cons n l ih =>
  cases w with
  | nil=>simp
  | cons p w =>
   rw [List.zip_cons_cons,List.zip_cons_cons,List.filter_cons,List.all_cons]
   by_cases h:p.1<=n/\n<=p.2
   ·rw [if_neg (by simp;omega),ih]
    simp [h]
   ·rw [if_pos (by simp;omega)]
    simp
    omega
theorem g4' {w:List (Int×Int)}{l:List Int} (h:w.length=l.length) (hl:w.length<=1000):cvF cW' [wishD w,letD l]=some (.bl (hasB w l)):=by
 refine bD' rfl fun K k1 _=>?_
 rw [g2']
 simp [wishD,letD]
 refine dK' (l.zip w) (fun q=>.tup [.int q.1,pairD q.2]) (fun q=>decide (q.1 < q.2.1)||decide (q.2.2 < q.1)) (fun q=>.int 1) ?_
 simp [gj']
 refine ⟨by omega,?_,?_⟩
 ·rintro n a b hm
  split<;>omega
 ·rw [oq']
  exact k1 _ ⟨_,rfl⟩
theorem sn' {a b:List (Int×Int)} (hb:∀ p∈b,PairOk p):(hasB a (b.map (·.1))&&hasB a (b.map (·.2)))=covB a b:=by
 unfold hasB covB
 induction a generalizing b with
 | nil=>simp
 | cons p a ih =>
  cases b with
  | nil=>simp
  | cons q b =>
   have h1:=ih fun p hp=>hb p (List.mem_cons_of_mem _ hp)
   have h2:=(hb q List.mem_cons_self).le
   simp only [List.map_cons,List.zip_cons_cons,List.all_cons]
   rw [← h1]
   by_cases h3:p.1<=q.1<;>by_cases h4:q.2<=p.2
   ·simp [h3,h4,show q.1<=p.2 by omega,show p.1<=q.2 by omega]
   ·simp [h3,h4]
   ·simp [h3,h4]
   ·simp [h3,h4]
theorem lY' {a b:List (Int×Int)} (h:a.length=b.length) (hl:a.length<=1000) (hb:∀ p∈b,PairOk p):cvF d2' [wishD a,wishD b]=some (.bl (covB a b)):=by
 refine bD' rfl fun KE k1 _=>?_
 rw [fk']
 refine ae' ?_;rintro K hK -
 simp
 refine bg' b pairD (fun _=>true) (fun q=>.int q.1) ?_
 simp [wishD]
 refine ⟨by omega,hK _ ?_⟩;clear hK
 refine ae' ?_;rintro K hK -
 simp
 refine bg' b pairD (fun _=>true) (fun q=>.int q.2) ?_
 simp
 refine ⟨by omega,hK _ ?_⟩;clear hK
 have e1:=g4' (w:=a) (l:=b.map (·.1)) (by simpa using h) hl
 have e2:=g4' (w:=a) (l:=b.map (·.2)) (by simpa using h) hl
 simp [wishD,letD,Function.comp_def] at e1 e2
 simp [e1]
 have:=sn' (a:=a) hb
 split
 ·rename_i h1
  simp [e2]
  rw [h1] at this
  simp at this
  rw [this]
  exact k1 _ ⟨_,rfl⟩
 ·rename_i h1
  have h1:hasB a (b.map (·.1))=false:=by simpa using h1
  rw [h1] at this
  simp at this
  rw [this] at k1
  exact k1 _ ⟨_,rfl⟩
def lettersB (w:List (Int×Int)) (acc:List (List Int)):List (List Int):=w.foldl (fun acc p=>acc.flatMap fun l=>(List.range (p.2+1 - p.1).toNat).map fun k:Nat=>l++[p.1+(k:Int)]) acc
theorem q0' {acc:List (List Int)}{n:Nat}{lo:Int}:(acc.flatMap fun l=>(List.range n).map fun k:Nat=>l++[lo+(k:Int)]).length=acc.length*n:=by
 induction acc with
 | nil=>simp
 | cons l acc ih=>rw [List.flatMap_cons,List.length_append,ih];simp [Nat.succ_mul];omega
theorem pT' {xs:List Nat}{m:Nat} (h:∀ x∈xs,x<=m):xs.sum<=xs.length*m:=by
 induction xs with
 | nil=>simp
 | cons x xs ih =>
  have h1:=h x List.mem_cons_self
  have h2:=ih fun x hx=>h x (List.mem_cons_of_mem _ hx)
  rw [List.sum_cons,List.length_cons,Nat.succ_mul]
  omega
theorem or' {w:List (Int×Int)} (hw:∀ p∈w,PairOk p) (hl:w.length<=3):cvF dD' [wishD w]=some (.lst ((lettersB w [[]]).map letD)):=by
 refine bD' rfl fun KE k1 _=>?_
 rw [eJ']
 refine ae' ?_;rintro K hK -
 simp
 refine hK _ ?_;clear hK
 refine ae' ?_;rintro K hK -
 simp [wishD]
 refine aT' (J:=fun i Γ=>∃ (acc:List (List Int)) (x y z u:Option R),acc.length<=10 ^ i/\(∀ l∈acc,l.length=i)/\lettersB w [[]]=lettersB (w.drop i) acc/\Γ=[some (.val (wishD w)),some (.val (.lst (acc.map letD))),x,y,z,u]) ⟨[[]],_,_,_,_,by simp,by simp,rfl,rfl⟩ ?_ ?_
 ·rintro i d Γ hd ⟨acc,x,y,z,u,ha,hb,he,rfl⟩ KL hnx - - -
  rw [List.getElem?_map,Option.map_eq_some_iff] at hd
  obtain ⟨p,hp,rfl⟩:=hd
  obtain ⟨hi,hp'⟩:=List.getElem?_eq_some_iff.mp hp
  have hpo:=hw p (List.mem_of_getElem? hp)
  have hn:(p.2+1 - p.1).toNat<=10:=by have:=hpo.lo;have:=hpo.hi;omega
  have ha3:acc.length<=100:=Nat.le_trans ha (Nat.le_trans (Nat.pow_le_pow_right (by omega) (show i<=2 by omega)) (by omega))
  simp [pairD]
  refine ae' ?_;rintro K hK -
  simp
  refine hK _ ?_;clear hK
  refine ae' ?_;rintro K hK -
  simp
  refine aT' (J:=fun j Γ=>∃ (u:Option R),Γ=[some (.val (wishD w)),some (.val (.lst (acc.map letD))),some (.val (.int p.1)),some (.val (.int p.2)),some (.own (((acc.take j).flatMap fun l=>(List.range (p.2+1 - p.1).toNat).map fun k:Nat=>l++[p.1+(k:Int)]).map letD)),u]) ⟨_,rfl⟩ ?_ ?_
  ·rintro j d Γ hd ⟨u,rfl⟩ KL hnx - - -
   rw [List.getElem?_map,Option.map_eq_some_iff] at hd
   obtain ⟨l,hl,rfl⟩:=hd
   simp [isMut,R.mut]
   refine bg' (List.range (p.2+1 - p.1).toNat) (fun k:Nat=>.int (p.1+(k:Int))) (fun _=>true) (fun k=>letD (l++[p.1+(k:Int)])) ?_
   simp [letD,rngD]
   have hll:=hb l (List.mem_of_getElem? hl)
   have hs:(List.take j (List.map (fun a=>(p.2+1 - p.1).toNat) acc)).sum<=1000:=by
    refine Nat.le_trans (pT' (m:=10) fun x hx=>?_) ?_
    ·have:=List.mem_of_mem_take hx
     simp at this
     omega
    ·simp
     omega
   refine ⟨by have:=hpo.lo;have:=hpo.hi;have:=hpo.le;omega,by omega,fun x _=>by omega,by omega,hnx _ ⟨some (.val (letD l)),?_⟩⟩
   ·have:acc.take (j+1)=acc.take j++[l]:=by
     rw [List.take_succ,hl];rfl
    rw [this]
    simp [letD,Function.comp_def]
  ·rintro Γ ⟨u,rfl⟩
   refine hK _ ?_
   simp
   refine hnx _ ⟨_,_,_,_,_,?_,?_,?_,rfl⟩
   ·rw [q0',Nat.pow_succ]
    exact Nat.mul_le_mul ha hn
   ·intro l hl
    simp at hl
    obtain ⟨l',h1,k,h2,rfl⟩:=hl
    simp [hb l' h1]
   ·rw [he,List.drop_eq_getElem_cons hi,hp']
    unfold lettersB
    rw [List.foldl_cons]
 ·rintro Γ ⟨acc,x,y,z,u,ha,hb,he,rfl⟩
  refine hK _ ?_
  simp [lettersB] at he
  simp
  rw [← he]
  exact k1 _ ⟨_,rfl⟩
def rngL (lo hi:Int):List Int:=(List.range (hi+1 - lo).toNat).map fun k:Nat=>lo+(k:Int)
theorem el' {lo hi:Int} (h:hi < lo):rngL lo hi=[]:=by
 unfold rngL
 rw [show (hi+1 - lo).toNat=0 by omega]
 rfl
theorem eG' {lo hi:Int} (h:lo<=hi):rngL lo hi=lo::rngL (lo+1) hi:=by
 unfold rngL
 rw [show (hi+1 - lo).toNat=(hi+1 - (lo+1)).toNat+1 by omega,List.range_succ_eq_map]
 simp
 intro a _
 omega
theorem q2' {lo hi n:Int}:n∈rngL lo hi↔lo<=n/\n<=hi:=by
 unfold rngL
 simp
 constructor
 ·rintro ⟨k,h1,rfl⟩;omega
 ·rintro ⟨h1,h2⟩;exact ⟨(n - lo).toNat,by omega,by omega⟩
theorem mP' {a b c d:Int}:(rngL a b).filter (fun n=>decide (c<=n)&&decide (n<=d))=rngL (max a c) (min b d):=by
 obtain ⟨m,hm⟩:∃ m:Nat,(b+1 - a).toNat=m:=⟨_,rfl⟩
 induction m generalizing a with
 | zero=>rw [el' (by omega),el' (by omega)];rfl
 | succ m ih =>
  rw [eG' (by omega),List.filter_cons,ih (a:=a+1) (by omega)]
  by_cases h1:c<=a
  ·by_cases h2:a<=d
   ·rw [if_pos (by simp [h1,h2]),eG' (lo:=max a c) (by omega),show max a c=a by omega,show max (a+1) c=a+1 by omega]
   ·rw [if_neg (by simp [h2]),el' (by omega),el' (by omega)]
  ·rw [if_neg (by simp [h1]),show max (a+1) c=max a c by omega]
def lettersR:List (Int×Int)->List (List Int)
 | []=>[[]]
 | p::w=>(rngL p.1 p.2).flatMap fun n=>(lettersR w).map (n::·)
theorem ot' {w:List (Int×Int)}{acc:List (List Int)}:lettersB w acc=acc.flatMap fun l=>(lettersR w).map (l++·):=by
 induction w generalizing acc with
 | nil=>simp [lettersB,lettersR]
 | cons p w ih =>
  have:lettersB (p::w) acc=lettersB w (acc.flatMap fun l=>(List.range (p.2+1 - p.1).toNat).map fun k:Nat=>l++[p.1+(k:Int)]):=by simp [lettersB]
  rw [this,ih,lettersR,List.flatMap_assoc]
  congr 1
  funext l
  simp [rngL,List.flatMap_map,List.map_flatMap,Function.comp_def]
theorem mQ' {w:List (Int×Int)}:lettersB w [[]]=lettersR w:=by
 rw [ot']
 simp
theorem fn' {w:List (Int×Int)}{l:List Int}:l∈lettersR w↔l.length=w.length/\hasB w l=true:=by
 induction w generalizing l with
 | nil=>simp [lettersR,hasB]
 | cons p w ih =>
  cases l with
  | nil=>simp [lettersR]
  | cons n l =>
   simp [lettersR,q2',hasB] at ih ⊢
   constructor
   ·rintro ⟨h1,h2⟩
    obtain ⟨h3,h4⟩:=ih.mp h2
    exact ⟨h3,h1,h4⟩
   ·rintro ⟨h1,h2,h3⟩
    exact ⟨h2,ih.mpr ⟨h1,h3⟩⟩
def mixB (a b:List (Int×Int)):List (Int×Int):=(a.zip b).map fun q=>(max q.1.1 q.2.1,min q.1.2 q.2.2)
def okB (w:List (Int×Int)):Bool:=w.all fun p=>decide (p.1<=p.2)
theorem i2' {a b:List (Int×Int)} (h:a.length=b.length):(lettersR a).filter (hasB b)=if okB (mixB a b)=true then lettersR (mixB a b) else []:=by
 induction a generalizing b with
 | nil =>
  cases b with
  | nil=>simp [lettersR,mixB,okB,hasB]
  | cons q b=>simp at h
 | cons p a ih =>
  cases b with
  | nil=>simp at h
  | cons q b =>
   have ih:=ih (b:=b) (by simpa using h)
   have e1:((lettersR (p::a)).filter (hasB (q::b)))=((rngL p.1 p.2).filter fun n=>decide (q.1<=n)&&decide (n<=q.2)).flatMap fun n=>((lettersR a).filter (hasB b)).map (n::·):=by
    rw [lettersR,List.filter_flatMap]
    generalize rngL p.1 p.2=ns
    induction ns with
    | nil=>rfl
    | cons n ns ihn =>
     rw [List.flatMap_cons,ihn,List.filter_cons]
     by_cases hq:q.1<=n/\n<=q.2
     ·rw [if_pos (by simp [hq]),List.flatMap_cons]
      congr 1
      rw [List.filter_map]
      congr 2
      funext l
      simp [hasB,hq]
     ·rw [if_neg (by simpa using hq)]
      have:(List.filter (hasB (q::b)) ((lettersR a).map (n::·)))=[]:=by
       rw [List.filter_eq_nil_iff]
       intro l hl
       simp at hl
       obtain ⟨l',_,rfl⟩:=hl
       simp [hasB]
       intro h1 h2
       omega
      rw [this,List.nil_append]
   rw [e1,mP',ih]
   have e2:mixB (p::a) (q::b)=(max p.1 q.1,min p.2 q.2)::mixB a b:=by simp [mixB]
   rw [e2]
   have e3:okB ((max p.1 q.1,min p.2 q.2)::mixB a b)=(decide (max p.1 q.1<=min p.2 q.2)&&okB (mixB a b)):=by simp only [okB,List.all_cons]
   rw [e3]
   by_cases h1:okB (mixB a b)=true
   ·rw [if_pos h1]
    by_cases h2:max p.1 q.1<=min p.2 q.2
    ·rw [if_pos (by rw [h1];simpa using h2),lettersR]
    ·rw [if_neg (by rw [h1];simpa using h2),el' (by omega)]
     rfl
   ·rw [if_neg h1,if_neg (by simp [h1])]
    simp
theorem mR' {a b:List (Int×Int)} (h:a.length=b.length) (hl:a.length<=1000):cvF dv' [wishD a,wishD b]=some (if okB (mixB a b)=true then wishD (mixB a b) else .non):=by
 refine bD' rfl fun KE k1 _=>?_
 rw [fJ']
 refine ae' ?_;rintro K hK -
 simp [wishD,nC',h]
 refine hK _ ?_;clear hK
 refine ae' ?_;rintro K hK -
 simp
 refine hK _ ?_;clear hK
 refine ae' ?_;rintro K hK hR
 simp [gj']
 refine aT' (J:=fun i Γ=>∃ x3 x4 x5 x6,okB ((mixB a b).take i)=true/\Γ=[some (.val (wishD a)),some (.val (wishD b)),some (.own (((mixB a b).take i).map pairD)),x3,x4,x5,x6]) ⟨_,_,_,_,rfl,rfl⟩ ?_ ?_
 ·rintro i d Γ hd ⟨x3,x4,x5,x6,ho,rfl⟩ KL hnx - - hR2
  rw [List.getElem?_map,Option.map_eq_some_iff] at hd
  obtain ⟨q,hq,rfl⟩:=hd
  obtain ⟨hi,hq'⟩:=List.getElem?_eq_some_iff.mp hq
  have hm:(mixB a b)[i]?=some (max q.1.1 q.2.1,min q.1.2 q.2.2):=by unfold mixB;rw [List.getElem?_map,hq];rfl
  simp
  refine ae' ?_;rintro K hK -
  simp
  refine hK _ ?_;clear hK
  refine ae' ?_;rintro K hK -
  simp
  refine hK _ ?_;clear hK
  refine ae' ?_;rintro K hK hR3
  simp
  split
  ·rename_i hgt
   have:okB (mixB a b)=false:=by
    rw [← Bool.not_eq_true]
    intro hall
    have:=List.all_eq_true.mp hall _ (List.mem_of_getElem? hm)
    simp only [decide_eq_true_eq] at this
    omega
   rw [this] at k1
   exact hR3 _ _ (hR2 _ _ (hR _ _ (k1 _ ⟨_,rfl⟩)))
  ·rename_i hle
   refine hK _ ?_;clear hK
   simp [isMut,R.mut]
   have hlen:(mixB a b).length=min a.length b.length:=by simp [mixB]
   have htk:(mixB a b).take (i+1)=(mixB a b).take i++[(max q.1.1 q.2.1,min q.1.2 q.2.2)]:=by rw [List.take_succ,hm];rfl
   refine ⟨by omega,hnx _ ⟨some (.val (pairD q.1)),some (.val (pairD q.2)),some (.val (.int (max q.1.1 q.2.1))),some (.val (.int (min q.1.2 q.2.2))),?_,?_⟩⟩
   ·rw [htk]
    unfold okB at ho ⊢
    rw [List.all_append,ho]
    simp only [List.all_cons,List.all_nil,Bool.and_true,Bool.true_and,decide_eq_true_eq]
    omega
   ·rw [htk,List.map_append]
    simp [pairD,wishD]
 ·rintro Γ ⟨x3,x4,x5,x6,ho,rfl⟩
  refine hK _ ?_
  have hlen:(mixB a b).length=(a.zip b).length:=by simp [mixB]
  rw [List.length_map,← hlen,List.take_length] at ho ⊢
  simp
  rw [if_pos ho] at k1
  exact k1 _ ⟨_,rfl⟩
theorem nD' (p:Int×Int):ltP p p=false:=by simp [ltP]
theorem nE' {p q:Int×Int}:ltP p q=true↔p.1 < q.1\/(p.1=q.1/\p.2 < q.2):=by
 unfold ltP
 by_cases a:p.1=q.1
 ·simp [a]
 ·rw [if_neg (by simpa using a)]
  simp [a]
theorem tM' {p q r:Int×Int} (h1:ltP p q=true) (h2:ltP q r=true):ltP p r=true:=by
 rw [nE'] at *
 omega
theorem nF' (ps:List (Int×Int)):∀ k i,i<=k->btP ps i (PySem.argBest (btP ps) k)=false
 | 0,i,h=>by
  obtain rfl:i=0:=by omega
  exact nD' _
 | k+1,i,h=>by
  have ih:=nF' ps k
  rw [PySem.argBest]
  split
  ·rename_i lt
   rcases Nat.lt_or_ge k i with g | g
   ·obtain rfl:i=k+1:=by omega
    exact nD' _
   ·have:=ih i g
    by_cases z:btP ps i (k+1)=true
    ·rw [show btP ps i _=true from tM' z lt] at this;cases this
    ·simpa using z
  ·rename_i nlt
   rcases Nat.lt_or_ge k i with g | g
   ·obtain rfl:i=k+1:=by omega
    simpa using nlt
   ·exact ih i g
theorem pU' {ps:List (Int×Int)} (h:ps≠[]):minP ps∈ps/\∀ q∈ps,ltP q (minP ps)=false:=by
 have pos:0 < ps.length:=List.length_pos_iff.mpr h
 have low:=iM' (btP ps) (ps.length - 1)
 constructor
 ·unfold minP
  rw [List.getD_eq_getElem?_getD,List.getElem?_eq_getElem (by omega)]
  exact List.getElem_mem _
 ·intro q hq
  obtain ⟨i,hi,rfl⟩:=List.getElem_of_mem hq
  have:=nF' ps (ps.length - 1) i (by omega)
  unfold btP at this
  rw [List.getD_eq_getElem?_getD,List.getElem?_eq_getElem hi] at this
  exact this
def leftB (ws:List (List (Int×Int))) (l:List Int):Bool:=ws.all fun w=>!hasB w l
def firstL (ws:List (List (Int×Int))) (p:List (Int×Int)):Option (List Int):=(lettersR p).find? (leftB ws)
theorem cY' (a b:List (Int×Int)):lettersR (a++b)=(lettersR a).flatMap fun l=>(lettersR b).map (l++·):=by
 induction a with
 | nil=>simp [lettersR]
 | cons p a ih =>
  rw [List.cons_append,lettersR,ih,lettersR,List.flatMap_assoc]
  congr 1
  funext n
  simp [List.map_flatMap,List.flatMap_map,Function.comp_def]
theorem gC' {w:List (Int×Int)} (h:okB w=true):∃ t,lettersR w=w.map (·.1)::t:=by
 induction w with
 | nil=>exact ⟨[],rfl⟩
 | cons p w ih =>
  simp only [okB,List.all_cons,Bool.and_eq_true,decide_eq_true_eq] at h
  obtain ⟨t,e⟩:=ih (by simpa [okB] using h.2)
  rw [lettersR,eG' h.1,List.flatMap_cons,e]
  simp
theorem q3' {lo a hi:Int} (h1:lo<=a) (h2:a<=hi):rngL lo hi=rngL lo a++rngL (a+1) hi:=by
 obtain ⟨m,hm⟩:∃ m:Nat,(a+1 - lo).toNat=m:=⟨_,rfl⟩
 induction m generalizing lo with
 | zero=>omega
 | succ m ih =>
  rw [eG' (by omega:lo<=hi),eG' h1]
  by_cases z:lo=a
  ·subst z
   rw [el' (by omega:lo < lo+1)]
   rfl
  ·rw [ih (lo:=lo+1) (by omega) (by omega)]
   rfl
theorem g5' {lo a hi:Int}{q:List (Int×Int)} (h1:lo<=a) (h2:a<=hi):lettersR ((lo,hi)::q)=lettersR ((lo,a)::q)++lettersR ((a+1,hi)::q):=by
 simp only [lettersR]
 rw [q3' h1 h2,List.flatMap_append]
theorem q4' {pre q:List (Int×Int)}{P P':List Int->Bool} (ok:okB pre=true) (h:∀ a∈lettersR pre,∀ x∈lettersR q,P (a++x)=P' x):(lettersR (pre++q)).find? P=((lettersR q).find? P').map (pre.map (·.1)++·):=by
 obtain ⟨t,e⟩:=gC' ok
 rw [cY']
 cases f:(lettersR q).find? P' with
 | none =>
  rw [List.find?_eq_none] at f
  simp only [Option.map_none,List.find?_eq_none]
  intro y hy
  rw [List.mem_flatMap] at hy
  obtain ⟨a,ha,hy⟩:=hy
  rw [List.mem_map] at hy
  obtain ⟨x,hx,rfl⟩:=hy
  rw [h a ha x hx]
  exact f x hx
 | some x =>
  rw [e,List.flatMap_cons,List.find?_append,List.find?_map]
  have:(lettersR q).find? (P∘(pre.map (·.1)++·))=(lettersR q).find? P':=by
   have hx:∀ x∈lettersR q,P (pre.map (·.1)++x)=P' x:=fun x hx=>h _ (by rw [e];exact List.mem_cons_self) x hx
   generalize lettersR q=Q at hx
   induction Q with
   | nil=>rfl
   | cons y Q ih =>
    rw [List.find?_cons,List.find?_cons,ih fun x hx'=>hx x (List.mem_cons_of_mem _ hx')]
    rw [show (P∘(pre.map (·.1)++·)) y=P' y from hx y List.mem_cons_self]
  rw [this,f]
  rfl
theorem q5' {a b:List (Int×Int)}{x y:List Int} (h:a.length=x.length):hasB (a++b) (x++y)=(hasB a x&&hasB b y):=by
 unfold hasB
 rw [List.zip_append h,List.all_append]
theorem pV' (a b:List (Int×Int)):mixB a b=mixB b a:=by
 unfold mixB
 induction a generalizing b with
 | nil=>simp
 | cons p a ih =>
  cases b with
  | nil=>simp
  | cons q b =>
   simp only [List.zip_cons_cons,List.map_cons]
   rw [ih b,Int.max_comm,Int.min_comm]
theorem q6' {w p:List (Int×Int)} (h:w.length=p.length) (no:okB (mixB w p)=false):∀ l∈lettersR p,hasB w l=false:=by
 have:=i2' h.symm
 rw [pV',no] at this
 simp only [Bool.false_eq_true,if_false] at this
 intro l hl
 have:=List.filter_eq_nil_iff.mp this l hl
 simpa using this
theorem nG' {w p:List (Int×Int)} (h:w.length=p.length) (c:covB w p=true):∀ l∈lettersR p,hasB w l=true:=by
 intro l hl
 obtain ⟨h1,h2⟩:=fn'.mp hl
 clear hl
 induction w generalizing p l with
 | nil=>simp [hasB]
 | cons a w ih =>
  cases p with
  | nil=>simp at h
  | cons b p =>
   cases l with
   | nil=>simp at h1
   | cons n l =>
    simp only [covB,hasB,List.zip_cons_cons,List.all_cons,Bool.and_eq_true,decide_eq_true_eq] at c h2 ⊢
    exact ⟨by omega,ih (by simpa using h) c.2 l (by simpa using h1) h2.2⟩
def hv1 (p:List (Int×Int)) (f:Nat) (a:Int):List (Int×Int):=p.take f++[((p.getD f (0,0)).1,a)]++p.drop (f+1)
def hv2 (p:List (Int×Int)) (f:Nat) (a:Int):List (Int×Int):=p.take f++[(a+1,(p.getD f (0,0)).2)]++p.drop (f+1)
theorem hQ' {p:List (Int×Int)}{f:Nat} (hf:f < p.length):p=p.take f++p.getD f (0,0)::p.drop (f+1):=by
 conv=>lhs;rw [← List.take_append_drop f p,List.drop_eq_getElem_cons hf]
 rw [List.getD_eq_getElem?_getD,List.getElem?_eq_getElem hf]
 rfl
theorem pW' {ws:List (List (Int×Int))}{p:List (Int×Int)}{f:Nat}{a:Int} (ok:okB p=true) (hf:f < p.length) (len:∀ w∈ws,w.length=p.length) (h1:(p.getD f (0,0)).1<=a) (h2:a<=(p.getD f (0,0)).2)
  (near:∀ w∈ws,(∀ l∈lettersR p,hasB w l=false)\/covB (w.take f) (p.take f)=true):firstL ws p=(firstL ws (hv1 p f a)).or (firstL ws (hv2 p f a)):=by
 have okp:okB (p.take f)=true:=List.all_eq_true.mpr fun x hx=>List.all_eq_true.mp ok x (List.mem_of_mem_take hx)
 obtain ⟨bs,hb⟩:∃ bs:List (List (Int×Int)),bs=ws.filter fun w=>covB (w.take f) (p.take f):=⟨_,rfl⟩
 have key:∀ x∈lettersR (p.take f),∀ y:List Int,x++y∈lettersR p->leftB ws (x++y)=leftB (bs.map (·.drop f)) y:=by
  intro x hx y hy
  obtain ⟨lx,_⟩:=fn'.mp hx
  unfold leftB
  rw [hb]
  clear hb bs
  induction ws with
  | nil=>rfl
  | cons w ws ih =>
   have ih:=ih (fun w hw=>len w (List.mem_cons_of_mem _ hw)) fun w hw=>near w (List.mem_cons_of_mem _ hw)
   rw [List.all_cons,ih,List.filter_cons]
   have lw:=len w List.mem_cons_self
   have lt:(w.take f).length=(p.take f).length:=by simp [lw]
   by_cases c:covB (w.take f) (p.take f)=true
   ·rw [if_pos c,List.map_cons,List.all_cons]
    congr 2
    conv=>lhs;rw [← List.take_append_drop f w]
    rw [q5' (by rw [lx,lt]),nG' lt c x hx]
    rfl
   ·rw [if_neg c]
    rcases near w List.mem_cons_self with n | n
    ·rw [n _ hy];rfl
    ·exact absurd n c
 have sub:∀ q:List (Int×Int),(∀ y∈lettersR q,y∈lettersR (p.getD f (0,0)::p.drop (f+1)))->firstL ws (p.take f++q)=((lettersR q).find? (leftB (bs.map (·.drop f)))).map ((p.take f).map (·.1)++·):=by
  intro q hq
  refine q4' okp fun x hx y hy=>key x hx y ?_
  rw [hQ' hf,cY',List.mem_flatMap]
  exact ⟨x,hx,List.mem_map.mpr ⟨y,hq y hy,rfl⟩⟩
 have cut:=g5' (q:=p.drop (f+1)) h1 h2
 rw [show firstL ws p=firstL ws (p.take f++p.getD f (0,0)::p.drop (f+1)) by rw [← hQ' hf],sub _ fun y h=>h]
 unfold hv1 hv2
 rw [List.append_assoc,List.append_assoc,List.singleton_append,List.singleton_append,sub _ fun y h=>by rw [show p.getD f (0,0)=((p.getD f (0,0)).1,(p.getD f (0,0)).2) from rfl,cut];exact List.mem_append_left _ h,
  sub _ fun y h=>by rw [show p.getD f (0,0)=((p.getD f (0,0)).1,(p.getD f (0,0)).2) from rfl,cut];exact List.mem_append_right _ h]
 rw [show p.getD f (0,0)=((p.getD f (0,0)).1,(p.getD f (0,0)).2) from rfl,cut,List.find?_append]
 cases (lettersR (((p.getD f (0,0)).1,a)::p.drop (f+1))).find? (leftB (bs.map (·.drop f)))<;>rfl
theorem pX' {p:List (Int×Int)}{f:Nat}{a:Int} (hf:f < p.length) (hl:p.length<=1000):cvF dw' [wishD p,.int f,.int a]=some (.tup [wishD (hv1 p f a),wishD (hv2 p f a)]):=by
 obtain ⟨pr,hp⟩:∃ pr,p[f]?=some pr:=⟨_,List.getElem?_eq_getElem hf⟩
 have e0:p.getD f (0,0)=pr:=by rw [List.getD_eq_getElem?_getD,hp];rfl
 have e1:atI (p.map pairD) (f:Int)=some (pairD pr):=by rw [DL.iV'];simp [hp]
 have e2:slF (.tup (p.map pairD)) none (some (f:Int))=some (.tup ((p.map pairD).take f)):=ny' (by simpa using hf)
 have e3:slF (.tup (p.map pairD)) (some ((f:Int)+1)) none=some (.tup ((p.map pairD).drop (f+1))):=nz' (n:=f+1) (by simp;omega) (by omega)
 refine bD' rfl fun KE k1 _=>?_
 rw [fK']
 refine ae' ?_;rintro K hK -
 simp [wishD,e2]
 refine hK _ ?_;clear hK
 refine ae' ?_;rintro K hK -
 simp [e3]
 refine hK _ ?_;clear hK
 refine ae' ?_;rintro K hK -
 simp [e1]
 refine hK _ ?_;clear hK
 refine ae' ?_;rintro K hK -
 simp [e1]
 refine hK _ ?_;clear hK
 simp
 refine ⟨by omega,by omega,by omega,by omega,?_⟩
 have k3:=k1 [some (.val (wishD p)),some (.val (.int f)),some (.val (.int a)),some (.val (.tup (List.take f (List.map pairD p)))),some (.val (.tup (List.drop (f+1) (List.map pairD p)))),some (.val (.int pr.1)),some (.val (.int pr.2))] ⟨_,rfl⟩
 simpa [wishD,hv1,hv2,e0,pairD,hp,List.map_take,List.map_drop] using k3
def bdL (g:Nat) (pr wr:Int×Int):List (Int×Int):=(if pr.1 < wr.1 then [((g:Int),wr.1 - 1)] else [])++if wr.2 < pr.2 then [((g:Int),wr.2)] else []
def bdsL (ws:List (List (Int×Int))) (p:List (Int×Int)) (g:Nat):List (Int×Int):=ws.flatMap fun w=>bdL g (p.getD g (0,0)) (w.getD g (0,0))
def bordersL (ws:List (List (Int×Int))) (p:List (Int×Int)):List (Int×Int):=(List.range p.length).flatMap (bdsL ws p)
theorem jD' {α β:Type}{f:α->List β}{m:Nat}{xs:List α} (h:∀ x∈xs,(f x).length<=m):(xs.flatMap f).length<=xs.length*m:=by
 induction xs with
 | nil=>simp
 | cons x xs ih =>
  have h1:=h x List.mem_cons_self
  have h2:=ih fun x hx=>h x (List.mem_cons_of_mem _ hx)
  rw [List.flatMap_cons,List.length_append,List.length_cons,Nat.succ_mul]
  omega
theorem pY' {g:Nat}{pr wr:Int×Int}:(bdL g pr wr).length<=2:=by
 unfold bdL
 split<;>split<;>simp
theorem so' {L:List (Int×Int)}:prsD (L.map pairD)=some L:=by
 induction L with
 | nil=>rfl
 | cons x L ih=>simp only [List.map_cons,pairD,prsD] at ih ⊢;rw [ih]
theorem sp' {L:List (Int×Int)} (h:L≠[]):minlF [.lst (L.map pairD)]=some (pairD (minP L)):=by
 cases L with
 | nil=>exact absurd rfl h
 | cons x L=>unfold minlF;simp only;rw [so'];rfl
theorem sq' {w:List (Int×Int)}{g:Nat} (h:g < w.length):atI (w.map pairD) (g:Int)=some (pairD (w.getD g (0,0))):=by
 rw [DL.iV',List.getD_eq_getElem?_getD];simp [h]
theorem pZ' {ws:List (List (Int×Int))}{p:List (Int×Int)} (hw:∀ w∈ws,w.length=p.length) (hp:p.length<=100) (hl:ws.length<=100) (ne:bordersL ws p≠[]):cvF b9' [.lst (ws.map wishD),wishD p]=some (pairD (minP (bordersL ws p))):=by
 refine bD' rfl fun KE k1 _=>?_
 rw [eh']
 refine ae' ?_;rintro K hK -
 simp
 refine hK _ ?_;clear hK
 refine ae' ?_;rintro K hK -
 simp [wishD]
 have big:∀ i,i<=100->((List.range i).flatMap (bdsL ws p)).length<=20000:=fun i hi=>by
  refine Nat.le_trans (jD' (m:=200) fun g _=>Nat.le_trans (jD' (m:=2) fun w _=>pY') (by omega)) ?_
  simp
  omega
 refine aT' (J:=fun i Γ=>∃ x3 x4 x5,Γ=[some (.val (.lst (ws.map wishD))),some (.val (wishD p)),some (.own (((List.range i).flatMap (bdsL ws p)).map pairD)),x3,x4,x5]) ⟨_,_,_,rfl⟩ ?_ ?_
 ·rintro i d Γ hd ⟨x3,x4,x5,rfl⟩ KL hnx - - -
  obtain ⟨x,e1,rfl⟩:=fh' hd
  rw [List.getElem?_map,Option.map_eq_some_iff] at e1
  obtain ⟨pr,e1,rfl⟩:=e1
  have hi:i < p.length:=(List.getElem?_eq_some_iff.mp e1).1
  have epr:p.getD i (0,0)=pr:=by rw [List.getD_eq_getElem?_getD,e1];rfl
  simp
  refine aT' (J:=fun j Γ=>∃ x5,Γ=[some (.val (.lst (ws.map wishD))),some (.val (wishD p)),some (.own (((List.range i).flatMap (bdsL ws p)++(ws.take j).flatMap fun w=>bdL i pr (w.getD i (0,0))).map pairD)),some (.val (.int i)),some (.val (pairD pr)),x5]) ⟨x5,by simp⟩ ?_ ?_
  ·rintro j d Γ hd ⟨x5,rfl⟩ KL hnx - - -
   rw [List.getElem?_map,Option.map_eq_some_iff] at hd
   obtain ⟨w,hwj,rfl⟩:=hd
   have hwm:=hw w (List.mem_of_getElem? hwj)
   have htk:ws.take (j+1)=ws.take j++[w]:=by rw [List.take_succ,hwj];rfl
   have aw:=sq' (w:=w) (g:=i) (by omega)
   obtain ⟨wr,ewr⟩:∃ wr,w.getD i (0,0)=wr:=⟨_,rfl⟩
   rw [ewr] at aw
   have big2:(((List.range i).flatMap (bdsL ws p))++(ws.take j).flatMap fun w=>bdL i pr (w.getD i (0,0))).length<=30000:=by
    have b1:=big i (by omega)
    have b2:((ws.take j).flatMap fun w=>bdL i pr (w.getD i (0,0))).length<=200:=Nat.le_trans (jD' (m:=2) fun w _=>pY') (by simp;omega)
    rw [List.length_append]
    omega
   rw [htk,List.flatMap_append] at hnx
   simp only [List.flatMap_cons,List.flatMap_nil,List.append_nil,ewr] at hnx
   generalize ((List.range i).flatMap (bdsL ws p))=A at hnx big2 ⊢
   generalize ((ws.take j).flatMap fun w=>bdL i pr (w.getD i (0,0)))=C at hnx big2 ⊢
   have big3:A.length+C.length<=30000:=by simpa using big2
   simp
   refine e8' (fun Γ=>Γ=[some (.val (.lst (ws.map wishD))),some (.val (wishD p)),some (.own ((A++C++if pr.1 < wr.1 then [((i:Int),wr.1 - 1)] else []).map pairD)),some (.val (.int i)),some (.val (pairD pr)),some (.val (wishD w))]) ?_ ?_
   ·rintro K hK -
    simp [isMut,R.mut,wishD,aw]
    split
    ·rename_i h
     refine ⟨by omega,hK _ ?_⟩
     simp [wishD,pairD,h]
    ·rename_i h
     refine hK _ ?_
     rw [if_neg h]
     simp [wishD]
   ·rintro Γ rfl
    simp [isMut,R.mut,wishD,aw]
    split
    ·rename_i h
     refine ⟨by split<;>simp<;>omega,hnx _ ⟨some (.val (wishD w)),?_⟩⟩
     unfold bdL
     rw [if_pos h]
     simp [wishD,pairD]
    ·rename_i h
     refine hnx _ ⟨some (.val (wishD w)),?_⟩
     unfold bdL
     rw [if_neg h]
     simp [wishD]
  ·rintro Γ ⟨x5,rfl⟩
   refine hnx _ ⟨some (.val (.int i)),some (.val (pairD pr)),x5,?_⟩
   rw [List.length_map,List.take_length,List.range_succ,List.flatMap_append]
   simp [bdsL,epr,e1]
 ·rintro Γ ⟨x3,x4,x5,rfl⟩
  refine hK _ ?_
  have hn:∀ ds:List D,(numD 0 ds).length=ds.length:=by
   have:∀ (ds:List D) m,(numD m ds).length=ds.length:=fun ds=>by
    induction ds with
    | nil=>intro m;rfl
    | cons d ds ih=>intro m;simp [numD,ih]
   exact fun ds=>this ds 0
  rw [hn,List.length_map]
  have:=sp' ne
  unfold bordersL at this k1
  simp [this]
  exact k1 _ ⟨_,rfl⟩
theorem di' {g:Nat}{pr wr x:Int×Int}:x∈bdL g pr wr↔(pr.1 < wr.1/\x=((g:Int),wr.1 - 1))\/(wr.2 < pr.2/\x=((g:Int),wr.2)):=by
 unfold bdL
 rw [List.mem_append]
 constructor
 ·rintro (h | h)
  ·split at h
   ·exact .inl ⟨‹_›,by simpa using h⟩
   ·simp at h
  ·split at h
   ·exact .inr ⟨‹_›,by simpa using h⟩
   ·simp at h
 ·rintro (⟨h,rfl⟩ | ⟨h,rfl⟩)
  ·exact .inl (by rw [if_pos h];simp)
  ·exact .inr (by rw [if_pos h];simp)
theorem fQ' {ws:List (List (Int×Int))}{p:List (Int×Int)}{x:Int×Int}:x∈bordersL ws p↔∃ g,g < p.length/\∃ w∈ws,x∈bdL g (p.getD g (0,0)) (w.getD g (0,0)):=by
 unfold bordersL bdsL
 simp only [List.mem_flatMap,List.mem_range]
theorem jE' {p:List (Int×Int)}{g:Nat} (h:g < p.length):p[g]?=some (p.getD g (0,0)):=by
 rw [List.getD_eq_getElem?_getD,List.getElem?_eq_getElem h];rfl
theorem tN' {w p:List (Int×Int)} (h:w.length=p.length) (ok:okB (mixB w p)=true){g:Nat} (hg:g < p.length):max (w.getD g (0,0)).1 (p.getD g (0,0)).1<=min (w.getD g (0,0)).2 (p.getD g (0,0)).2:=by
 have e:(mixB w p)[g]?=some (max (w.getD g (0,0)).1 (p.getD g (0,0)).1,min (w.getD g (0,0)).2 (p.getD g (0,0)).2):=by
  unfold mixB
  rw [List.getElem?_map,List.getElem?_zip_eq_some (z:=(w.getD g (0,0),p.getD g (0,0))) |>.mpr ⟨jE' (by omega),jE' hg⟩]
  rfl
 have:=List.all_eq_true.mp ok _ (List.mem_of_getElem? e)
 simpa using this
theorem nH' {w p:List (Int×Int)} (h:w.length=p.length) (k:∀ g,g < p.length->(w.getD g (0,0)).1<=(p.getD g (0,0)).1/\(p.getD g (0,0)).2<=(w.getD g (0,0)).2):covB w p=true:=by
 unfold covB
 rw [List.all_eq_true]
 intro q hq
 obtain ⟨i,hi,rfl⟩:=List.getElem_of_mem hq
 rw [List.length_zip] at hi
 have:=k i (by omega)
 rw [List.getElem_zip]
 rw [List.getD_eq_getElem?_getD,List.getD_eq_getElem?_getD,List.getElem?_eq_getElem (by omega),List.getElem?_eq_getElem (by omega)] at this
 simpa using this
theorem tO' {ws:List (List (Int×Int))}{p:List (Int×Int)} (len:∀ w∈ws,w.length=p.length) (ne:ws≠[]) (mix:∀ w∈ws,okB (mixB w p)=true) (no:∀ w∈ws,covB w p=false) :
  bordersL ws p≠[]/\∃ (f:Nat) (a:Int),minP (bordersL ws p)=((f:Int),a)/\f < p.length/\(p.getD f (0,0)).1<=a/\a < (p.getD f (0,0)).2/\∀ w∈ws,covB (w.take f) (p.take f)=true:=by
 have one:bordersL ws p≠[]:=by
  obtain ⟨w,hw⟩:=List.exists_mem_of_ne_nil ws ne
  intro emp
  have c:=nH' (len w hw) fun g hg=>by
   have h0:=fun x hx=>(fQ' (ws:=ws) (p:=p) (x:=x)).mpr ⟨g,hg,w,hw,hx⟩
   rw [emp] at h0
   refine ⟨Int.not_lt.mp fun lt=>?_,Int.not_lt.mp fun lt=>?_⟩
   ·exact absurd (h0 _ (di'.mpr (.inl ⟨lt,rfl⟩))) List.not_mem_nil
   ·exact absurd (h0 _ (di'.mpr (.inr ⟨lt,rfl⟩))) List.not_mem_nil
  rw [no w hw] at c
  cases c
 refine ⟨one,?_⟩
 obtain ⟨m1,m2⟩:=pU' one
 generalize minP (bordersL ws p)=m at m1 m2
 obtain ⟨f,hf,w,hw,hm⟩:=fQ'.mp m1
 have mx:=tN' (len w hw) (mix w hw) hf
 refine ⟨f,m.2,?_,hf,?_⟩
 ·rcases di'.mp hm with ⟨_,rfl⟩ | ⟨_,rfl⟩<;>rfl
 ·have m1f:m.1=f:=by rcases di'.mp hm with ⟨_,rfl⟩ | ⟨_,rfl⟩<;>rfl
  refine ⟨?_,?_,fun v hv=>?_⟩
  ·rcases di'.mp hm with ⟨h,rfl⟩ | ⟨h,rfl⟩<;>(dsimp only;omega)
  ·rcases di'.mp hm with ⟨h,rfl⟩ | ⟨h,rfl⟩<;>(dsimp only;omega)
  ·refine nH' (by simp [len v hv]) fun g hg=>?_
   rw [List.length_take] at hg
   have e:∀ u:List (Int×Int),(u.take f).getD g (0,0)=u.getD g (0,0):=fun u=>by
    rw [List.getD_eq_getElem?_getD,List.getD_eq_getElem?_getD,List.getElem?_take_of_lt (by omega)]
   rw [e,e]
   have far:∀ x,x∈bdL g (p.getD g (0,0)) (v.getD g (0,0))->False:=fun x hx=>by
    have:=m2 x (fQ'.mpr ⟨g,by omega,v,hv,hx⟩)
    have x1:x.1=g:=by rcases di'.mp hx with ⟨_,rfl⟩ | ⟨_,rfl⟩<;>rfl
    have:¬ ltP x m=true:=by rw [this];simp
    rw [nE'] at this
    omega
   exact ⟨Int.not_lt.mp fun lt=>far _ (di'.mpr (.inl ⟨lt,rfl⟩)),Int.not_lt.mp fun lt=>far _ (di'.mpr (.inr ⟨lt,rfl⟩))⟩
inductive Tr where
 | byK (k:Nat)
 | cut (f:Nat) (a:Int) (l r:Tr)
def trD:Tr->D
 | .byK k=>.tup [.str "by", .int k]
 | .cut f a l r=>.tup [.str "cut", .int f,.int a,trD l,trD r]
def Tr.deep:Tr->Nat
 | .byK _=>0
 | .cut _ _ l r=>max l.deep r.deep+1
def GoodT (ws:List (List (Int×Int))):Tr->List (Int×Int)->Prop
 | .byK k,p=>∃ w,ws[k]?=some w/\covB w p=true
 | .cut f a l r,p=>f < p.length/\(p.getD f (0,0)).1<=a/\a < (p.getD f (0,0)).2/\GoodT ws l (hv1 p f a)/\GoodT ws r (hv2 p f a)
def RightD (ws:List (List (Int×Int))) (p:List (Int×Int)) (m:Nat) (d:D):Prop:=(∃ l,firstL ws p=some l/\d=.tup [.str "out", letD l])\/∃ t,firstL ws p=none/\GoodT ws t p/\t.deep<=m/\d=.tup [.str "in", trD t]
def sizeP (p:List (Int×Int)):Nat:=(p.map fun q=>(q.2 - q.1).toNat).sum
theorem p0' {p:List (Int×Int)}{f:Nat}{a:Int} (hf:f < p.length) (h1:(p.getD f (0,0)).1<=a) (h2:a < (p.getD f (0,0)).2):sizeP (hv1 p f a) < sizeP p/\sizeP (hv2 p f a) < sizeP p:=by
 have e:=hQ' hf
 generalize p.getD f (0,0)=pr at *
 have s:sizeP p=sizeP (p.take f)+((pr.2 - pr.1).toNat+sizeP (p.drop (f+1))):=by
  conv=>lhs;rw [e]
  simp [sizeP]
 unfold hv1 hv2
 rw [s]
 have e1:p.getD f (0,0)=pr:=by
  conv=>lhs;rw [e]
  rw [List.getD_eq_getElem?_getD,List.getElem?_append_right (by simp;omega)]
  simp [Nat.min_eq_left (Nat.le_of_lt hf)]
 rw [e1]
 simp [sizeP]
 omega
theorem Wf.cut {n:Nat}{p:List (Int×Int)}{f:Nat}{a:Int} (hp:Wf n p) (hf:f < p.length) (h1:(p.getD f (0,0)).1<=a) (h2:a < (p.getD f (0,0)).2):Wf n (hv1 p f a)/\Wf n (hv2 p f a):=by
 have pr:PairOk (p.getD f (0,0)):=hp.all _ (List.mem_of_getElem? (jE' hf))
 have:=pr.lo;have:=pr.hi;have:=hp.len
 constructor
 ·refine ⟨by simp [hv1];omega,fun q hq=>?_⟩
  unfold hv1 at hq
  rw [List.mem_append,List.mem_append,List.mem_singleton] at hq
  rcases hq with (h | rfl) | h
  ·exact hp.all q (List.mem_of_mem_take h)
  ·exact ⟨pr.lo,h1,by dsimp only;omega⟩
  ·exact hp.all q (List.mem_of_mem_drop h)
 ·refine ⟨by simp [hv2];omega,fun q hq=>?_⟩
  unfold hv2 at hq
  rw [List.mem_append,List.mem_append,List.mem_singleton] at hq
  rcases hq with (h | rfl) | h
  ·exact hp.all q (List.mem_of_mem_take h)
  ·exact ⟨by dsimp only;omega,by dsimp only;omega,pr.hi⟩
  ·exact hp.all q (List.mem_of_mem_drop h)
theorem Wf.ok {n:Nat}{p:List (Int×Int)} (hp:Wf n p):okB p=true:=List.all_eq_true.mpr fun q hq=>by simpa using (hp.all q hq).le
theorem mS' {p:List (Int×Int)}{f:Nat}{a:Int} (hf:f < p.length) (h1:(p.getD f (0,0)).1<=a) (h2:a < (p.getD f (0,0)).2):∀ l,l∈lettersR (hv1 p f a)\/l∈lettersR (hv2 p f a)->l∈lettersR p:=by
 intro l hl
 have cut:=g5' (q:=p.drop (f+1)) h1 (Int.le_of_lt h2)
 rw [show lettersR p=lettersR (p.take f++p.getD f (0,0)::p.drop (f+1)) by rw [← hQ' hf],cY',List.mem_flatMap]
 rw [show p.getD f (0,0)=((p.getD f (0,0)).1,(p.getD f (0,0)).2) from rfl,cut]
 rcases hl with hl | hl
 ·unfold hv1 at hl
  rw [List.append_assoc,List.singleton_append,cY',List.mem_flatMap] at hl
  obtain ⟨x,hx,hl⟩:=hl
  obtain ⟨y,hy,rfl⟩:=List.mem_map.mp hl
  exact ⟨x,hx,List.mem_map.mpr ⟨y,List.mem_append_left _ hy,rfl⟩⟩
 ·unfold hv2 at hl
  rw [List.append_assoc,List.singleton_append,cY',List.mem_flatMap] at hl
  obtain ⟨x,hx,hl⟩:=hl
  obtain ⟨y,hy,rfl⟩:=List.mem_map.mp hl
  exact ⟨x,hx,List.mem_map.mpr ⟨y,List.mem_append_right _ hy,rfl⟩⟩
def wAt (ws:List (List (Int×Int))) (k:Nat):List (Int×Int):=ws.getD k []
theorem g6' {ws:List (List (Int×Int))}{k:Nat} (h:k < ws.length):wAt ws k=ws[k]:=by
 unfold wAt
 rw [List.getD_eq_getElem?_getD,List.getElem?_eq_getElem h];rfl
theorem ou' {ws:List (List (Int×Int))}{k:Nat} (h:k < ws.length):atI (ws.map wishD) (k:Int)=some (wishD (wAt ws k)):=by
 rw [DL.iV',g6' h];simp [h]
theorem p1' {ws:List (List (Int×Int))}{k:Nat} (h:k < ws.length):wAt ws k∈ws:=by
 rw [g6' h];exact List.getElem_mem _
theorem ki' {n:Nat}{ws:List (List (Int×Int))} (hw:∀ w∈ws,Wf n w) (hl:ws.length<=100) (hn:n<=100):∀ (m:Nat) (ks:List Nat) (p:List (Int×Int)),Wf n p->sizeP p < m->(∀ k∈ks,k < ws.length)->ks.length<=100 →
  (∀ k,k < ws.length->k∉ks->∀ l∈lettersR p,hasB (wAt ws k) l=false)->∃ d,cvF (ba' m) [.lst (ws.map wishD),.lst (ks.map fun k:Nat=>.int k),wishD p]=some d/\RightD ws p (sizeP p) d
 | 0,ks,p,hp,hs,_,_,_=>absurd hs (Nat.not_lt_zero _)
 | m+1,ks,p,hp,hs,hk,hkl,far=>by
  have ih:=ki' hw hl hn m
  have lenw:∀ k,k < ws.length->(wAt ws k).length=p.length:=fun k h=>by rw [(hw _ (p1' h)).len,hp.len]
  have plen:p.length<=100:=by rw [hp.len];exact hn
  have key:wpF (ba' (m+1)) [.val (.lst (ws.map wishD)),.val (.lst (ks.map fun k:Nat=>.int k)),.val (wishD p)] fun r _=>∃ d,r=.val d/\RightD ws p (sizeP p) d:=by
   rw [ba']
   refine dN' rfl fun KE hE _=>?_
   rw [co']
   refine ae' ?_;rintro K hK -
   simp
   refine bg' ks (fun k:Nat=>.int k) (fun k=>okB (mixB (wAt ws k) p)) (fun k:Nat=>.int k) ?_
   simp
   refine ⟨by omega,fun k hkm=>?_,hK _ ?_⟩
   ·have e1:=ou' (hk k hkm)
    have e2:=mR' (lenw k (hk k hkm)) (by rw [lenw k (hk k hkm)];omega)
    simp [e1,e2]
    split<;>simp [isN,wishD, *]
   ·clear hK
    obtain ⟨near,hnear⟩:∃ near,near=ks.filter fun k=>okB (mixB (wAt ws k) p):=⟨_,rfl⟩
    rw [← hnear]
    have nearm:∀ k,k∈near↔k∈ks/\okB (mixB (wAt ws k) p)=true:=fun k=>by rw [hnear,List.mem_filter]
    have nearl:near.length<=100:=by rw [hnear];exact Nat.le_trans (List.length_filter_le _ _) hkl
    have far2:∀ k,k < ws.length->k∉near->∀ l∈lettersR p,hasB (wAt ws k) l=false:=fun k h1 h2=>by
     by_cases h3:k∈ks
     ·refine q6' (lenw k h1) ?_
      rw [nearm] at h2
      simpa [h3] using h2
     ·exact far k h1 h3
    clear hnear
    refine ae' ?_;rintro K hK hR
    simp
    split
    ·-- nothing is near
     rename_i h0
     have h0:near=[]:=by simpa using h0
     simp [wishD]
     refine bg' p pairD (fun _=>true) (fun q=>.int q.1) ?_
     simp
     refine ⟨by omega,hR _ _ (hE _ _ ⟨_,rfl,_,rfl,.inl ⟨p.map (·.1),?_,?_⟩⟩)⟩
     ·obtain ⟨t,e⟩:=gC' hp.ok
      unfold firstL
      rw [e,List.find?_cons_of_pos]
      unfold leftB
      rw [List.all_eq_true]
      intro w hwm
      obtain ⟨k,h1,rfl⟩:=List.getElem_of_mem hwm
      have:=far2 k h1 (by rw [h0];simp) (p.map (·.1)) (by rw [e];exact List.mem_cons_self)
      rw [g6' h1] at this
      simpa using this
     ·simp [letD,Function.comp_def]
    ·rename_i h0
     refine hK _ ?_;clear hK
     have h0:near≠[]:=by simpa using h0
     refine ae' ?_;rintro K hK hR
     simp
     refine aT' (J:=fun i Γ=>∃ x4,(∀ k∈near.take i,covB (wAt ws k) p=false)/\Γ=[some (.val (.lst (ws.map wishD))),some (.val (.lst (ks.map fun k:Nat=>.int k))),some (.val (wishD p)),some (.val (.lst (near.map fun k:Nat=>.int k))),x4,none,none,none,none]) ⟨none,by simp,rfl⟩ ?_ ?_
     ·rintro i d Γ hd ⟨x4,hc,rfl⟩ KL hnx - - hR2
      rw [List.getElem?_map,Option.map_eq_some_iff] at hd
      obtain ⟨k,hki,rfl⟩:=hd
      have hkn:=(nearm k).mp (List.mem_of_getElem? hki)
      have hkw:=hk k hkn.1
      have e1:=ou' hkw
      have e2:=kh' (lenw k hkw) (by rw [lenw k hkw];omega)
      have htk:near.take (i+1)=near.take i++[k]:=by rw [List.take_succ,hki];rfl
      simp [e1,e2]
      split
      ·rename_i hcov
       have hcov:covB (wAt ws k) p=true:=by simpa using hcov
       refine hR2 _ _ (hR _ _ (hE _ _ ⟨_,rfl,_,rfl,.inr ⟨.byK k,?_,⟨wAt ws k,?_,hcov⟩,Nat.zero_le _,?_⟩⟩))
       ·unfold firstL
        rw [List.find?_eq_none]
        intro l hlm
        unfold leftB
        intro all
        have:=List.all_eq_true.mp all _ (p1' hkw)
        rw [nG' (lenw k hkw) hcov l hlm] at this
        cases this
       ·rw [g6' hkw,List.getElem?_eq_getElem hkw]
       ·rw [trD]
      ·rename_i hcov
       refine hnx _ ⟨_,fun k' hk'=>?_,rfl⟩
       rw [htk] at hk'
       rcases List.mem_append.mp hk' with h | h
       ·exact hc k' h
       ·rw [List.mem_singleton.mp h]
        simpa using hcov
     ·rintro Γ ⟨x4,hc,rfl⟩
      refine hK _ ?_;clear hK
      rw [List.length_map,List.take_length] at hc
      obtain ⟨nws,enws⟩:∃ nws,nws=near.map fun k=>wAt ws k:=⟨_,rfl⟩
      have nwm:∀ w∈nws,∃ k,k∈near/\k < ws.length/\w=wAt ws k:=fun w h=>by
       rw [enws,List.mem_map] at h
       obtain ⟨k,h1,rfl⟩:=h
       exact ⟨k,h1,hk k ((nearm k).mp h1).1,rfl⟩
      obtain ⟨bne,f,a,em,hf,h1,h2,cov⟩:=tO' (ws:=nws) (p:=p) (fun w h=>by obtain ⟨k,_,hk',rfl⟩:=nwm w h;exact lenw k hk') (by rw [enws];simpa using h0)
       (fun w h=>by obtain ⟨k,hk',_,rfl⟩:=nwm w h;exact ((nearm k).mp hk').2) (fun w h=>by obtain ⟨k,hk',_,rfl⟩:=nwm w h;exact hc k hk')
      have bo:=pZ' (ws:=nws) (p:=p) (fun w h=>by obtain ⟨k,_,hk',rfl⟩:=nwm w h;exact lenw k hk') plen (by rw [enws];simpa using nearl) bne
      rw [em] at bo
      have ha:=pX' (p:=p) (a:=a) hf (by omega)
      obtain ⟨w1,w2⟩:=hp.cut hf h1 h2
      obtain ⟨z1,z2⟩:=p0' hf h1 h2
      have sub:=mS' hf h1 h2
      have first:firstL ws p=(firstL ws (hv1 p f a)).or (firstL ws (hv2 p f a)):=pW' hp.ok hf (fun w h=>by rw [(hw w h).len,hp.len]) h1 (Int.le_of_lt h2) fun w h=>by
       obtain ⟨k,hkw,rfl⟩:=List.getElem_of_mem h
       have eg:wAt ws k=ws[k]:=g6' hkw
       by_cases hkn:k∈near
       ·exact .inr (cov _ (by rw [enws,List.mem_map];exact ⟨k,hkn,eg⟩))
       ·have:=far2 k hkw hkn
        rw [eg] at this
        exact .inl this
      obtain ⟨d1,e1,r1⟩:=ih near (hv1 p f a) w1 (by omega) (fun k h=>hk k ((nearm k).mp h).1) nearl fun k h1 h2 l hl=>far2 k h1 h2 l (sub l (.inl hl))
      obtain ⟨d2,e2,r2⟩:=ih near (hv2 p f a) w2 (by omega) (fun k h=>hk k ((nearm k).mp h).1) nearl fun k h1 h2 l hl=>far2 k h1 h2 l (sub l (.inr hl))
      refine ae' ?_;rintro K hK -
      simp
      refine bg' near (fun k:Nat=>.int k) (fun _=>true) (fun k:Nat=>wishD (wAt ws k)) ?_
      simp
      refine ⟨by omega,fun k hkm=>?_,?_⟩
      ·have e1:=ou' (hk k ((nearm k).mp hkm).1)
       simp [e1]
      ·have ew:(near.map fun k=>wishD (wAt ws k))=nws.map wishD:=by rw [enws];simp
       rw [ew]
       simp [bo]
       refine hK _ ?_;clear hK
       refine ae' ?_;rintro K hK -
       simp [ha]
       refine hK _ ?_;clear hK
       refine ae' ?_;rintro K hK -
       simp [e1]
       refine hK _ ?_;clear hK
       rcases r1 with ⟨l1,f1,rfl⟩ | ⟨t1,f1,g1,dp1,rfl⟩
       ·refine ae' ?_;rintro K hK hR3
        simp
        exact hR3 _ _ (hE _ _ ⟨_,rfl,_,rfl,.inl ⟨l1,by rw [first,f1];rfl,rfl⟩⟩)
       ·refine ae' ?_;rintro K hK -
        simp
        refine hK _ ?_;clear hK
        refine ae' ?_;rintro K hK -
        simp [e2]
        refine hK _ ?_;clear hK
        rcases r2 with ⟨l2,f2,rfl⟩ | ⟨t2,f2,g2,dp2,rfl⟩
        ·refine ae' ?_;rintro K hK hR3
         simp
         exact hR3 _ _ (hE _ _ ⟨_,rfl,_,rfl,.inl ⟨l2,by rw [first,f1,f2];rfl,rfl⟩⟩)
        ·refine ae' ?_;rintro K hK -
         simp
         refine hK _ ?_;clear hK
         simp
         refine hE _ _ ⟨_,rfl,_,rfl,.inr ⟨.cut f a t1 t2,by rw [first,f1,f2];rfl,⟨hf,h1,h2,g1,g2⟩,?_,by rw [trD]⟩⟩
         rw [Tr.deep]
         omega
  obtain ⟨r,rs',e,d,rfl,hR⟩:=key
  exact ⟨d,by unfold cvF;simp only [List.map];rw [e],hR⟩
theorem ov' {n:Nat}{ws:List (List (Int×Int))}{p:List (Int×Int)} (hw:∀ w∈ws,Wf n w) (hl:ws.length<=100) (hn:n<=3) (hp:Wf n p):∃ d,cvF eD' [.lst (ws.map wishD),wishD p]=some d/\RightD ws p 27 d:=by
 have sz:sizeP p<=27:=by
  unfold sizeP
  refine Nat.le_trans (pT' (m:=9) fun x hx=>?_) ?_
  ·obtain ⟨q,hq,rfl⟩:=List.mem_map.mp hx
   have:=(hp.all q hq).lo;have:=(hp.all q hq).hi
   omega
  ·rw [List.length_map,hp.len]
   omega
 obtain ⟨d,e,r⟩:=ki' hw hl (by omega) 40 (List.range ws.length) p hp (by omega) (fun k h=>List.mem_range.mp h) (by simpa using hl) fun k h1 h2=>absurd (List.mem_range.mpr h1) h2
 refine ⟨d,?_,?_⟩
 ·refine bD' rfl fun KE k1 _=>?_
  rw [g0']
  refine ae' ?_;rintro K hK -
  have kin:cvF aE' [.lst (wishD p::ws.map wishD)]=some .non:=i1' (n:=n) fun d hd=>by
   rcases List.mem_cons.mp hd with rfl | h
   ·exact ⟨p.map pairD,rfl,by simp [hp.len]⟩
   ·obtain ⟨w,hwm,rfl⟩:=List.mem_map.mp h
    exact ⟨w.map pairD,rfl,by simp [(hw w hwm).len]⟩
  simp [kin]
  refine ⟨by omega,hK _ ?_⟩;clear hK
  have er:rngD 0 ws.length=(List.range ws.length).map fun k:Nat=>D.int k:=by simp [rngD]
  simp [er,e]
  exact ⟨by omega,k1 _ ⟨_,rfl⟩⟩
 ·rcases r with r | ⟨t,r1,r2,r3,r4⟩
  ·exact .inl r
  ·exact .inr ⟨t,r1,r2,by omega,r4⟩
theorem gs' {ws:List (List (Int×Int))}:dep (.lst (ws.map wishD))<=3:=by
 rw [dep]
 have:depA (ws.map wishD)<=2:=dh' fun d hd=>by
  obtain ⟨w,_,rfl⟩:=List.mem_map.mp hd
  exact ek'
 omega
theorem kj':∀ (a b:List (Int×Int)),deqA (a.map pairD) (b.map pairD)=decide (a=b)
 | [],[]=>by simp [deqA]
 | [],q::b=>by simp [deqA]
 | p::a,[]=>by simp [deqA]
 | p::a,q::b=>by
  rw [List.map_cons,List.map_cons,deqA,kj' a b]
  simp [pairD,deq,deqA,Prod.ext_iff]
  by_cases h1:p.1=q.1<;>by_cases h2:p.2=q.2<;>by_cases h3:a=b<;>simp [h1,h2,h3]
theorem em' (a b:List (Int×Int)):deq (wishD a) (wishD b)=decide (a=b):=by
 unfold wishD
 rw [deq]
 exact kj' a b
theorem kk' {a b:List (Int×Int)} (h:wishD a=wishD b):a=b:=by
 have:=em' a b
 rw [h,DL.dI'] at this
 simpa using this.symm
theorem lZ':∀ (a b:List (Int×Int)),cmA (a.map pairD) (b.map pairD)=true
 | [],[]=>by simp [cmA]
 | [],q::b=>by simp [cmA]
 | p::a,[]=>by simp [cmA]
 | p::a,q::b=>by
  rw [List.map_cons,List.map_cons,cmA,lZ' a b]
  simp [pairD,cmB,cmA]
theorem nI' (a b:List (Int×Int)):cmB (wishD a) (wishD b)=true:=by
 unfold wishD
 rw [cmB]
 exact lZ' a b
theorem kl' (ws:List (List (Int×Int))):cmAll (ws.map wishD)=true:=by
 unfold cmAll
 rw [List.all_eq_true]
 intro a ha
 rw [List.all_eq_true]
 intro b hb
 obtain ⟨x,_,rfl⟩:=List.mem_map.mp ha
 obtain ⟨y,_,rfl⟩:=List.mem_map.mp hb
 exact nI' x y
theorem l0':∀ a:List (Int×Int),kyA (a.map pairD)=true
 | []=>by simp [kyA]
 | p::a=>by
  rw [List.map_cons,kyA,l0' a]
  simp [pairD,kyB,kyA]
theorem hR' {f:D->Bool}{ws:List (List (Int×Int))} (h:∀ w∈ws,f (wishD w)=true):(ws.map wishD).all f=true:=by
 rw [List.all_eq_true]
 intro d hd
 obtain ⟨w,hw,rfl⟩:=List.mem_map.mp hd
 exact h w hw
theorem l1' {n:Nat}{w:List (Int×Int)} (hw:Wf n w) (h:1<=n):fstT (wishD w)=true:=by
 have:=hw.len
 cases w with
 | nil=>simp at this;omega
 | cons p w=>rfl
theorem p2' (ws:List (List (Int×Int))):depA (ws.map wishD)<=2:=dh' fun d hd=>by
 obtain ⟨w,_,rfl⟩:=List.mem_map.mp hd
 exact ek'
theorem pull {ws:List (List (Int×Int))}:∀ (l:List D),(∀ d∈l,∃ w∈ws,d=wishD w)->∃ us:List (List (Int×Int)),l=us.map wishD/\∀ u∈us,u∈ws
 | [],_=>⟨[],rfl,fun u hu=>by cases hu⟩
 | d::l,h=>by
  obtain ⟨us,e,m⟩:=pull l fun d hd=>h d (List.mem_cons_of_mem _ hd)
  obtain ⟨w,hw,rfl⟩:=h d List.mem_cons_self
  refine ⟨w::us,by rw [e];rfl,fun u hu=>?_⟩
  rcases List.mem_cons.mp hu with rfl | hu
  ·exact hw
  ·exact m u hu
theorem dy' {us:List (List (Int×Int))}{w:List (Int×Int)}:wishD w∈us.map wishD↔w∈us:=by
 rw [List.mem_map]
 constructor
 ·rintro ⟨u,hu,e⟩
  rw [← kk' e]
  exact hu
 ·exact fun h=>⟨w,h,rfl⟩
theorem ow' {us:List (List (Int×Int))} (h:(us.map wishD).Nodup):us.Nodup:=by
 induction us with
 | nil=>exact List.nodup_nil
 | cons u us ih =>
  rw [List.map_cons,List.nodup_cons] at h
  rw [List.nodup_cons]
  exact ⟨fun m=>h.1 (dy'.mpr m),ih h.2⟩
theorem km' (ws:List (List (Int×Int))):∃ us:List (List (Int×Int)),sortD (ws.map wishD)=us.map wishD/\(∀ u,u∈us↔u∈ws)/\us.length=ws.length:=by
 have p:=cl' (ws.map wishD)
 obtain ⟨us,e,m⟩:=pull (ws:=ws) (sortD (ws.map wishD)) fun d hd=>by
  obtain ⟨w,hw,rfl⟩:=List.mem_map.mp (p.mem_iff.mp hd)
  exact ⟨w,hw,rfl⟩
 refine ⟨us,e,fun u=>⟨m u,fun hu=>?_⟩,?_⟩
 ·have:=p.mem_iff.mpr (dy'.mpr hu)
  rw [e] at this
  exact dy'.mp this
 ·have:=p.length_eq
  rw [e] at this
  simpa using this
theorem eX' (ws:List (List (Int×Int))):∃ us:List (List (Int×Int)),sortD (dd (ws.map wishD))=us.map wishD/\(∀ u,u∈us↔u∈ws)/\us.Nodup/\us.length<=ws.length:=by
 have p:=cl' (dd (ws.map wishD))
 obtain ⟨us,e,m⟩:=pull (ws:=ws) (sortD (dd (ws.map wishD))) fun d hd=>by
  obtain ⟨w,hw,rfl⟩:=List.mem_map.mp (gW' (p.mem_iff.mp hd))
  exact ⟨w,hw,rfl⟩
 refine ⟨us,e,fun u=>⟨m u,fun hu=>?_⟩,ow' ?_,?_⟩
 ·have h1:=tI' (ws.map wishD) (wishD u) (dy'.mpr hu)
  obtain ⟨d,hd,q⟩:=List.any_eq_true.mp h1
  obtain ⟨w,hw,rfl⟩:=List.mem_map.mp (gW' hd)
  rw [em'] at q
  simp at q
  subst q
  have:=p.mem_iff.mpr hd
  rw [e] at this
  exact dy'.mp this
 ·rw [← e]
  exact p.nodup_iff.mpr (lB' _)
 ·have h1:=p.length_eq
  have h2:=pO' (ws.map wishD)
  rw [e] at h1
  simp at h1 h2
  omega
theorem q7' {n:Nat}{ws:List (List (Int×Int))} (hws:∀ w∈ws,Wf n w) (h:(dd (ws.map wishD)).length<=18):SetOk (ws.map wishD):=by
 refine ⟨kl' ws,hR' fun w _=>?_,hR' fun w _=>rfl,Nat.le_trans (p2' ws) (by omega),h⟩
 unfold wishD
 rw [kyB]
 exact l0' w
theorem sr' {n:Nat}{ws:List (List (Int×Int))} (hws:∀ w∈ws,Wf n w) (hn:1<=n) (h:(dd (ws.map wishD)).length<=18):setF [.lst (ws.map wishD)]=some (sortD (dd (ws.map wishD))) :=
 tH' (q7' hws h) (.inr (hR' fun w hw=>l1' (hws w hw) hn))
theorem q8' {n:Nat}{ws:List (List (Int×Int))} (hws:∀ w∈ws,Wf n w) (hn:1<=n) (h:ws.length < 64):sortF [.lst (ws.map wishD)]=some (sortD (ws.map wishD)) :=
 iu' ⟨by simpa using h,kl' ws,Nat.le_trans (p2' ws) (by omega),.inr (.inr (hR' fun w hw=>l1' (hws w hw) hn))⟩
theorem h7' {as bs:List (List (Int×Int))} (h1:(as.map wishD).Pairwise fun a b=>leD a b=true) (h2:(bs.map wishD).Pairwise fun a b=>leD a b=true) (n1:as.Nodup) (n2:bs.Nodup) (m:∀ w,w∈as↔w∈bs):as=bs:=by
 have len:bs.length<=as.length:=by
  have:=fA' bs as n2 (fun w hw=>(m w).mpr hw)
  exact this
 have p:as.Perm bs:=it' as bs n1 (fun w hw=>(m w).mp hw) len
 have e:as.map wishD=bs.map wishD:=gh' _ _ (p.map _) h1 h2 fun a ha b hb l1 l2=>by
  obtain ⟨x,_,rfl⟩:=List.mem_map.mp ha
  obtain ⟨y,_,rfl⟩:=List.mem_map.mp hb
  have c:=nI' x y
  refine gV' _ _ c ?_
  rw [f7' _ _ c]
  unfold leD at l1 l2
  rw [l1,l2]
  rfl
 have:∀ (as bs:List (List (Int×Int))),as.map wishD=bs.map wishD->as=bs:=by
  intro as
  induction as with
  | nil=>intro bs e;cases bs with
   | nil=>rfl
   | cons b bs=>simp at e
  | cons a as ih =>
   intro bs e
   cases bs with
   | nil=>simp at e
   | cons b bs =>
    rw [List.map_cons,List.map_cons] at e
    injection e with e1 e2
    rw [kk' e1,ih bs e2]
 exact this as bs e
def undB (us:List (List (Int×Int))) (w:List (Int×Int)):Bool:=us.any fun one=>!decide (one=w)&&covB one w
theorem q9' {n:Nat}{us:List (List (Int×Int))}{w:List (Int×Int)} (hus:∀ u∈us,Wf n u) (hw:Wf n w) (hn:n<=3) (hl:us.length<=1000000):cvF b1' [.lst (us.map wishD),wishD w]=some (.bl (undB us w)):=by
 refine bD' rfl fun K k1 _=>?_
 rw [cU']
 simp
 refine bg' us wishD (fun _=>true) (fun one=>.bl (!decide (one=w)&&covB one w)) ?_
 simp [em']
 refine ⟨hl,fun one ho=>⟨.inl (by have:=ek' (w:=one);omega),?_⟩,?_⟩
 ·have:=kh' (a:=one) (b:=w) (by rw [(hus one ho).len,hw.len]) (by rw [(hus one ho).len];omega)
  simp [this]
  split<;>simp_all
 ·rw [qY']
  simp
  exact k1 _ ⟨_,rfl⟩
theorem ss' {n:Nat}{ws us:List (List (Int×Int))} (hws:∀ u∈ws,Wf n u) (h1:1<=n) (hn:n<=3) (hl:ws.length<=1000000) (h18:(dd (ws.map wishD)).length<=18) (e:sortD (dd (ws.map wishD))=us.map wishD) (m:∀ u,u∈us↔u∈ws) (ul:us.length<=ws.length) :
  coF cV' [.lst (ws.map wishD)]=some ((us.filter fun w=>!undB us w).map wishD):=by
 refine gk' rfl fun KE k1=>?_
 rw [gZ']
 refine ae' ?_;rintro K hK -
 have kin:cvF aE' [.lst (ws.map wishD)]=some .non:=i1' (n:=n) fun d hd=>by
  obtain ⟨w,hw,rfl⟩:=List.mem_map.mp hd
  exact ⟨w.map pairD,rfl,by rw [List.length_map,(hws w hw).len]⟩
 simp [kin]
 refine hK _ ?_;clear hK
 refine ae' ?_;rintro K hK -
 simp [sr' hws h1 h18,e]
 refine hK _ ?_;clear hK
 simp
 refine bg' us wishD (fun w=>!undB us w) wishD ?_
 simp
 refine ⟨by omega,fun w hw=>?_,k1 _ ⟨_,rfl⟩⟩
 have hus:∀ u∈us,Wf n u:=fun u hu=>hws u ((m u).mp hu)
 simp [q9' hus (hus w hw) hn (by omega)]
theorem dT' {us ws:List (List (Int×Int))} (m:∀ u,u∈us↔u∈ws) (w:List (Int×Int)):undB us w=undB ws w:=by
 unfold undB
 rw [Bool.eq_iff_iff,List.any_eq_true,List.any_eq_true]
 exact ⟨fun ⟨u,h,q⟩=>⟨u,(m u).mp h,q⟩,fun ⟨u,h,q⟩=>⟨u,(m u).mpr h,q⟩⟩
def lrStep (ws:List (List (Int×Int))) (acc:List (List (Int×Int))) (w:List (Int×Int)):List (List (Int×Int)):=if undB ws w=false/\w∉acc then acc++[w] else acc
theorem hS' (ws:List (List (Int×Int))):∀ (ss acc:List (List (Int×Int))),acc.Nodup →
  (ss.foldl (lrStep ws) acc).Nodup/\(∀ w,w∈ss.foldl (lrStep ws) acc↔w∈acc\/(w∈ss/\undB ws w=false))/\∃ t,ss.foldl (lrStep ws) acc=acc++t/\t.Sublist ss
 | [],acc,h=>⟨h,fun w=>by simp,[],by simp,List.Sublist.refl _⟩
 | s::ss,acc,h=>by
  by_cases c:undB ws s=false/\s∉acc
  ·have e:lrStep ws acc s=acc++[s]:=if_pos c
   have nd:(acc++[s]).Nodup:=by
    rw [List.nodup_append]
    refine ⟨h,by simp,fun a ha b hb q=>?_⟩
    rw [List.mem_singleton.mp hb] at q
    rw [q] at ha
    exact c.2 ha
   obtain ⟨h1,h2,t,h3,h4⟩:=hS' ws ss (acc++[s]) nd
   rw [List.foldl_cons,e]
   refine ⟨h1,fun w=>?_,s::t,by rw [h3];simp,h4.cons₂ s⟩
   rw [h2 w]
   constructor
   ·rintro (q | q)
    ·rcases List.mem_append.mp q with q | q
     ·exact .inl q
     ·rw [List.mem_singleton.mp q]
      exact .inr ⟨List.mem_cons_self,c.1⟩
    ·exact .inr ⟨List.mem_cons_of_mem _ q.1,q.2⟩
   ·rintro (q | ⟨q,q'⟩)
    ·exact .inl (by simp [q])
    ·rcases List.mem_cons.mp q with rfl | q
     ·exact .inl (by simp)
     ·exact .inr ⟨q,q'⟩
  ·have e:lrStep ws acc s=acc:=if_neg c
   obtain ⟨h1,h2,t,h3,h4⟩:=hS' ws ss acc h
   rw [List.foldl_cons,e]
   refine ⟨h1,fun w=>?_,t,h3,h4.cons s⟩
   rw [h2 w]
   constructor
   ·rintro (q | q)
    ·exact .inl q
    ·exact .inr ⟨List.mem_cons_of_mem _ q.1,q.2⟩
   ·rintro (q | ⟨q,q'⟩)
    ·exact .inl q
    ·rcases List.mem_cons.mp q with rfl | q
     ·by_cases z:w∈acc
      ·exact .inl z
      ·exact absurd ⟨q',z⟩ c
     ·exact .inr ⟨q,q'⟩
theorem i3' {ws us ss:List (List (Int×Int))} (eu:sortD (dd (ws.map wishD))=us.map wishD) (mu:∀ u,u∈us↔u∈ws) (nu:us.Nodup) (es:sortD (ws.map wishD)=ss.map wishD) (ms:∀ u,u∈ss↔u∈ws) :
  ss.foldl (lrStep ws) []=us.filter fun w=>!undB us w:=by
 obtain ⟨h1,h2,t,h3,h4⟩:=hS' ws ss [] List.nodup_nil
 have up1:=cn' (ws.map wishD)
 have up2:=cn' (dd (ws.map wishD))
 rw [es] at up1
 rw [eu] at up2
 rw [List.nil_append] at h3
 refine h7' ?_ (up2.sublist (List.filter_sublist.map _)) h1 (nu.filter _) fun w=>?_
 ·rw [h3]
  exact up1.sublist (h4.map _)
 ·rw [h2 w,List.mem_filter,mu,ms,dT' mu]
  simp
theorem p3' {ws:List (List (Int×Int))}{w:List (Int×Int)}:(List.filter (fun one=>!decide (one=w)&&covB one w) ws).isEmpty=!undB ws w:=by
 unfold undB
 rw [Bool.eq_iff_iff]
 simp
theorem i4' {n:Nat}{ws ss:List (List (Int×Int))} (hws:∀ u∈ws,Wf n u) (h1:1<=n) (hn:n<=3) (hl:ws.length < 64) (e:sortD (ws.map wishD)=ss.map wishD) (m:∀ u,u∈ss↔u∈ws) (sl:ss.length=ws.length) :
  cvF bE' [.lst (ws.map wishD)]=some (.lst ((ss.foldl (lrStep ws) []).map wishD)):=by
 refine bD' rfl fun KE k1 _=>?_
 rw [gp']
 refine ae' ?_;rintro K hK -
 simp
 refine hK _ ?_;clear hK
 refine ae' ?_;rintro K hK -
 simp [q8' hws h1 hl,e]
 refine aT' (J:=fun i Γ=>∃ x2 x3,Γ=[some (.val (.lst (ws.map wishD))),some (.own (((ss.take i).foldl (lrStep ws) []).map wishD)),x2,x3]) ⟨_,_,rfl⟩ ?_ ?_
 ·rintro i d Γ hd ⟨x2,x3,rfl⟩ KL hnx - - -
  rw [List.getElem?_map,Option.map_eq_some_iff] at hd
  obtain ⟨w,hw,rfl⟩:=hd
  have hwm:=(m w).mp (List.mem_of_getElem? hw)
  have hww:=hws w hwm
  have tk:ss.take (i+1)=ss.take i++[w]:=by rw [List.take_succ,hw];rfl
  have accl:((ss.take i).foldl (lrStep ws) []).length<=64:=by
   obtain ⟨_,_,t,h3,h4⟩:=hS' ws (ss.take i) [] List.nodup_nil
   rw [h3,List.nil_append]
   have:=h4.length_le
   have:=(List.take_sublist i ss).length_le
   omega
  rw [tk,List.foldl_append] at hnx
  simp only [List.foldl_cons,List.foldl_nil] at hnx
  generalize (ss.take i).foldl (lrStep ws) []=acc at *
  simp
  refine ae' ?_;rintro K hK -
  simp
  refine bg' ws wishD (fun one=>!decide (one=w)&&covB one w) wishD ?_
  simp [em']
  refine ⟨by omega,fun one ho=>⟨.inl (by have:=ek' (w:=one);omega),?_⟩,hK _ ?_⟩
  ·have:=lY' (a:=one) (b:=w) (by rw [(hws one ho).len,hww.len]) (by rw [(hws one ho).len];omega) hww.all
   by_cases q:one=w
   ·simp [q]
   ·simp [q,this]
  ·clear hK
   have dw:=ek' (w:=w)
   have fa:(∀ a∈acc,deq (wishD a) (wishD w)=false)↔w∉acc:=by
    simp [em']
    exact ⟨fun h m=>h w m rfl,fun h a m e=>h (e▸m)⟩
   simp [p3',fa]
   by_cases c1:undB ws w=false
   ·by_cases c2:w∈acc
    ·rw [show lrStep ws acc w=acc from if_neg fun z=>z.2 c2] at hnx
     simp [c1,c2]
     exact ⟨by omega,hnx _ ⟨_,_,rfl⟩⟩
    ·rw [show lrStep ws acc w=acc++[w] from if_pos ⟨c1,c2⟩] at hnx
     simp [c1,c2,isMut,R.mut]
     exact ⟨by omega,by omega,hnx _ ⟨_,_,by rw [List.map_append];rfl⟩⟩
   ·rw [show lrStep ws acc w=acc from if_neg fun z=>c1 z.1] at hnx
    simp [c1]
    exact hnx _ ⟨_,_,rfl⟩
 ·rintro Γ ⟨x2,x3,rfl⟩
  refine hK _ ?_
  rw [List.length_map,List.take_length]
  simp
  exact k1 _ ⟨_,rfl⟩
theorem gt' {p q:Int×Int}{a b:List (Int×Int)}:covB (p::a) (q::b)=true↔(p.1<=q.1/\q.2<=p.2)/\covB a b=true:=by
 unfold covB
 rw [List.zip_cons_cons,List.all_cons]
 simp
theorem l2':∀ a:List (Int×Int),covB a a=true
 | []=>rfl
 | p::a=>gt'.mpr ⟨⟨Int.le_refl _,Int.le_refl _⟩,l2' a⟩
theorem g7':∀ {a b c:List (Int×Int)},a.length=b.length->b.length=c.length->covB a b=true->covB b c=true->covB a c=true
 | [],[],[],_,_,_,_=>rfl
 | p::a,q::b,r::c,h1,h2,x,y=>by
  rw [gt'] at x y ⊢
  exact ⟨⟨Int.le_trans x.1.1 y.1.1,Int.le_trans y.1.2 x.1.2⟩,g7' (by simpa using h1) (by simpa using h2) x.2 y.2⟩
theorem l3':∀ {a b:List (Int×Int)},a.length=b.length->covB a b=true->covB b a=true->a=b
 | [],[],_,_,_=>rfl
 | p::a,q::b,h,x,y=>by
  rw [gt'] at x y
  rw [l3' (by simpa using h) x.2 y.2,Prod.ext (Int.le_antisymm x.1.1 y.1.1) (Int.le_antisymm y.1.2 x.1.2)]
def wd (w:List (Int×Int)):Nat:=(w.map fun p=>(p.2 - p.1).toNat).sum
theorem p4':∀ {a b:List (Int×Int)},a.length=b.length->(∀ p∈b,p.1<=p.2)->covB a b=true->wd b<=wd a/\(wd b=wd a->a=b)
 | [],[],_,_,_=>⟨Nat.le_refl _,fun _=>rfl⟩
 | p::a,q::b,h,ok,x=>by
  rw [gt'] at x
  obtain ⟨h1,h2⟩:=p4' (by simpa using h) (fun p hp=>ok p (List.mem_cons_of_mem _ hp)) x.2
  have:=ok q List.mem_cons_self
  unfold wd at *
  simp only [List.map_cons,List.sum_cons]
  refine ⟨by omega,fun e=>?_⟩
  rw [h2 (by omega)]
  have e1:p.1=q.1:=by omega
  have e2:p.2=q.2:=by omega
  rw [Prod.ext e1 e2]
theorem uL':∀ {n:Nat}{w:List (Int×Int)},Wf n w->wd w<=9*n
 | n,w,h=>by
  have:=h.len
  have key:∀ w:List (Int×Int),(∀ p∈w,PairOk p)->wd w<=9*w.length:=by
   intro w
   induction w with
   | nil=>exact fun _=>Nat.le_refl _
   | cons p w ih =>
    intro h
    have h1:=ih fun q hq=>h q (List.mem_cons_of_mem _ hq)
    have h2:=h p List.mem_cons_self
    have:=h2.lo;have:=h2.hi
    unfold wd at *
    simp only [List.map_cons,List.sum_cons,List.length_cons]
    omega
  have:=key w h.all
  omega
theorem Wf.le2 {n:Nat}{w:List (Int×Int)} (h:Wf n w):∀ p∈w,p.1<=p.2:=fun p hp=>(h.all p hp).le
theorem f9' {ws:List (List (Int×Int))}{w:List (Int×Int)}:undB ws w=true↔∃ u∈ws,u≠w/\covB u w=true:=by
 unfold undB
 rw [List.any_eq_true]
 simp
theorem p5' {n:Nat}{ws:List (List (Int×Int))} (hws:∀ u∈ws,Wf n u):∀ (k:Nat) (w:List (Int×Int)),w∈ws->9*n - wd w<=k->∃ u∈ws,undB ws u=false/\covB u w=true
 | k,w,hw,hk=>by
  by_cases c:undB ws w=false
  ·exact ⟨w,hw,c,l2' w⟩
  ·have c:undB ws w=true:=by simpa using c
   obtain ⟨u,hu,ne,cv⟩:=f9'.mp c
   have lu:=(hws u hu).len
   have lw:=(hws w hw).len
   obtain ⟨d1,d2⟩:=p4' (by rw [lu,lw]) (hws w hw).le2 cv
   have lt:wd w < wd u:=by
    rcases Nat.lt_or_ge (wd w) (wd u) with z | z
    ·exact z
    ·exact absurd (d2 (Nat.le_antisymm d1 z)) ne
   have:=uL' (hws u hu)
   match k with
   | 0=>omega
   | k+1 =>
    obtain ⟨m,hm,h1,h2⟩:=p5' hws k u hu (by omega)
    have lm:=(hws m hm).len
    exact ⟨m,hm,h1,g7' (by rw [lm,lu]) (by rw [lu,lw]) h2 cv⟩
structure IsRoof (ws R:List (List (Int×Int))):Prop where
 up:(R.map wishD).Pairwise fun a b=>leD a b=true
 nd:R.Nodup
 mem:∀ w,w∈R↔w∈ws/\undB ws w=false
theorem IsRoof.alone {ws R S:List (List (Int×Int))} (a:IsRoof ws R) (b:IsRoof ws S):R=S:=h7' a.up b.up a.nd b.nd fun w=>(a.mem w).trans (b.mem w).symm
theorem IsRoof.congr {ws vs R:List (List (Int×Int))} (a:IsRoof ws R) (m:∀ u,u∈vs↔u∈ws):IsRoof vs R:=⟨a.up,a.nd,fun w=>by rw [a.mem,m,dT' m]⟩
theorem jF' (ws:List (List (Int×Int))):∃ R,IsRoof ws R/\R.length<=ws.length:=by
 obtain ⟨us,eu,mu,nu,ul⟩:=eX' ws
 have up2:=cn' (dd (ws.map wishD))
 rw [eu] at up2
 refine ⟨us.filter fun w=>!undB us w,⟨up2.sublist (List.filter_sublist.map _),nu.filter _,fun w=>?_⟩,Nat.le_trans (List.length_filter_le _ _) ul⟩
 rw [List.mem_filter,mu,dT' mu]
 simp
theorem nJ' {n:Nat}{ws R:List (List (Int×Int))} (hws:∀ u∈ws,Wf n u) (h1:1<=n) (hn:n<=3) (hl:ws.length<=18) (a:IsRoof ws R):coF cV' [.lst (ws.map wishD)]=some (R.map wishD):=by
 obtain ⟨us,eu,mu,nu,ul⟩:=eX' ws
 have up2:=cn' (dd (ws.map wishD))
 rw [eu] at up2
 have h18:(dd (ws.map wishD)).length<=18:=by
  have:=pO' (ws.map wishD)
  simp at this
  omega
 rw [ss' hws h1 hn (by omega) h18 eu mu ul]
 have:IsRoof ws (us.filter fun w=>!undB us w):=⟨up2.sublist (List.filter_sublist.map _),nu.filter _,fun w=>by
  rw [List.mem_filter,mu,dT' mu]
  simp⟩
 rw [this.alone a]
theorem IsRoof.over {n:Nat}{ws R:List (List (Int×Int))} (a:IsRoof ws R) (hws:∀ u∈ws,Wf n u){w:List (Int×Int)} (hw:w∈ws):∃ u∈R,covB u w=true:=by
 obtain ⟨u,h1,h2,h3⟩:=p5' hws _ w hw (Nat.le_refl _)
 exact ⟨u,(a.mem u).mpr ⟨h1,h2⟩,h3⟩
theorem IsRoof.sub {ws R:List (List (Int×Int))} (a:IsRoof ws R){w:List (Int×Int)} (h:w∈R):w∈ws:=((a.mem w).mp h).1
theorem IsRoof.und {n:Nat}{ws R:List (List (Int×Int))} (a:IsRoof ws R) (hws:∀ u∈ws,Wf n u){w:List (Int×Int)} (hw:Wf n w):undB R w=undB ws w:=by
 rw [Bool.eq_iff_iff,f9',f9']
 constructor
 ·rintro ⟨u,h1,h2⟩
  exact ⟨u,a.sub h1,h2⟩
 ·rintro ⟨u,h1,h2,h3⟩
  obtain ⟨m,h4,h5⟩:=a.over hws h1
  have lu:=(hws u h1).len
  have lm:=(hws m (a.sub h4)).len
  have lw:=hw.len
  refine ⟨m,h4,fun e=>?_,g7' (by rw [lm,lu]) (by rw [lu,lw]) h5 h3⟩
  subst e
  exact h2 (l3' (by rw [lu,lm]) h3 h5)
theorem IsRoof.self {n:Nat}{ws R:List (List (Int×Int))} (a:IsRoof ws R) (hws:∀ u∈ws,Wf n u):IsRoof R R:=⟨a.up,a.nd,fun w=>by
 constructor
 ·intro h
  refine ⟨h,?_⟩
  rw [a.und hws (hws w (a.sub h))]
  exact ((a.mem w).mp h).2
 ·exact fun h=>h.1⟩
theorem d3' {ws vs:List (List (Int×Int))}{w:List (Int×Int)}:undB (ws++vs) w=(undB ws w||undB vs w):=by
 unfold undB
 rw [List.any_append]
theorem IsRoof.cat {n:Nat}{ws vs R S T:List (List (Int×Int))} (a:IsRoof ws R) (b:IsRoof vs S) (hws:∀ u∈ws,Wf n u) (hvs:∀ u∈vs,Wf n u) (c:IsRoof (ws++vs) T):IsRoof (R++S) T:=⟨c.up,c.nd,fun w=>by
 rw [c.mem]
 constructor
 ·rintro ⟨h1,h2⟩
  have hw:Wf n w:=by
   rcases List.mem_append.mp h1 with z | z
   ·exact hws w z
   ·exact hvs w z
  have h3:=h2
  rw [d3'] at h3
  simp at h3
  refine ⟨?_,?_⟩
  ·rcases List.mem_append.mp h1 with z | z
   ·exact List.mem_append.mpr (.inl ((a.mem w).mpr ⟨z,h3.1⟩))
   ·exact List.mem_append.mpr (.inr ((b.mem w).mpr ⟨z,h3.2⟩))
  ·rw [d3',a.und hws hw,b.und hvs hw,← d3']
   exact h2
 ·rintro ⟨h1,h2⟩
  have h4:w∈ws++vs:=by
   rcases List.mem_append.mp h1 with z | z
   ·exact List.mem_append.mpr (.inl (a.sub z))
   ·exact List.mem_append.mpr (.inr (b.sub z))
  have hw:Wf n w:=by
   rcases List.mem_append.mp h4 with z | z
   ·exact hws w z
   ·exact hvs w z
  refine ⟨h4,?_⟩
  rw [d3',a.und hws hw,b.und hvs hw,← d3'] at h2
  exact h2⟩
theorem kn' {ws:List (List (Int×Int))}{l:List Int}:leftB ws l=true↔∀ w∈ws,hasB w l=false:=by
 unfold leftB
 rw [List.all_eq_true]
 simp
def AllIn (ws:List (List (Int×Int))) (p:List (Int×Int)):Prop:=∀ l∈lettersR p,∃ w∈ws,hasB w l=true
theorem ox' {ws:List (List (Int×Int))}{p:List (Int×Int)}:firstL ws p=none↔AllIn ws p:=by
 unfold firstL AllIn
 rw [List.find?_eq_none]
 constructor
 ·intro h l hl
  have:=h l hl
  rw [kn'] at this
  simp at this
  obtain ⟨w,h1,h2⟩:=this
  exact ⟨w,h1,h2⟩
 ·rintro h l hl z
  obtain ⟨w,h1,h2⟩:=h l hl
  rw [kn'] at z
  rw [z w h1] at h2
  cases h2
def inB1 (ws:List (List (Int×Int))) (p:List (Int×Int)):Bool:=(firstL ws p).isNone
theorem l4' {ws:List (List (Int×Int))}{p:List (Int×Int)}:inB1 ws p=true↔AllIn ws p:=by
 unfold inB1
 rw [Option.isNone_iff_eq_none,ox']
theorem AllIn.mono {ws vs:List (List (Int×Int))}{p:List (Int×Int)} (h:AllIn ws p) (s:∀ w∈ws,w∈vs):AllIn vs p:=fun l hl=>by
 obtain ⟨w,h1,h2⟩:=h l hl
 exact ⟨w,s w h1,h2⟩
def butW (stay:List (List (Int×Int))) (w:List (Int×Int)):List (List (Int×Int)):=stay.filter fun u=>!decide (u=w)
theorem su' {stay:List (List (Int×Int))}{w u:List (Int×Int)}:u∈butW stay w↔u∈stay/\u≠w:=by
 unfold butW
 rw [List.mem_filter]
 simp
def spStep (stay:List (List (Int×Int))) (w:List (Int×Int)):List (List (Int×Int)):=if inB1 (butW stay w) w=true then butW stay w else stay
def spareL (R:List (List (Int×Int))):List (List (Int×Int)):=R.foldl spStep R
theorem oy' (stay:List (List (Int×Int))) (w:List (Int×Int)):(spStep stay w).Sublist stay:=by
 unfold spStep butW
 split
 ·exact List.filter_sublist
 ·exact List.Sublist.refl _
theorem fo':∀ (ps stay:List (List (Int×Int))),(ps.foldl spStep stay).Sublist stay
 | [],stay=>List.Sublist.refl _
 | p::ps,stay=>(fo' ps _).trans (oy' stay p)
theorem IsRoof.part {ws R K:List (List (Int×Int))} (a:IsRoof ws R) (s:K.Sublist R):IsRoof K K:=⟨a.up.sublist (s.map _),a.nd.sublist s,fun w=>by
 constructor
 ·intro h
  refine ⟨h,?_⟩
  rw [Bool.eq_false_iff]
  intro z
  obtain ⟨u,h1,h2,h3⟩:=f9'.mp z
  have:=((a.mem w).mp (s.subset h)).2
  rw [f9'.mpr ⟨u,a.sub (s.subset h1),h2,h3⟩] at this
  cases this
 ·exact fun h=>h.1⟩
theorem IsRoof.one (w:List (Int×Int)):IsRoof [w] [w]:=⟨List.pairwise_singleton _ _,by simp,fun u=>by
 rw [List.mem_singleton]
 constructor
 ·rintro rfl
  refine ⟨rfl,?_⟩
  simp [undB]
 ·exact fun h=>h.1⟩
theorem uM' {l:D}{x:D}:ixF (.tup [x,l]) (.int 0)=some x:=rfl
theorem l5' {n:Nat}{ws:List (List (Int×Int))}{p:List (Int×Int)} (hw:∀ w∈ws,Wf n w) (hl:ws.length<=100) (hn:n<=3) (hp:Wf n p):∃ x,cvF eD' [.lst (ws.map wishD),wishD p]=some (.tup [.str (if inB1 ws p=true then "in" else "out"),x]):=by
 obtain ⟨d,e,r⟩:=ov' hw hl hn hp
 rcases r with ⟨l,h1,rfl⟩ | ⟨t,h1,_,_,rfl⟩
 ·refine ⟨letD l,?_⟩
  rw [if_neg (by unfold inB1;rw [h1];simp)]
  exact e
 ·refine ⟨trD t,?_⟩
  rw [if_pos (by unfold inB1;rw [h1];rfl)]
  exact e
theorem ra' {ws:List (List (Int×Int))}:noLA (ws.map wishD)=true:=by
 have pr:∀ w:List (Int×Int),noLA (w.map pairD)=true:=fun w=>by
  induction w with
  | nil=>simp [noLA]
  | cons p w ih =>
   rw [List.map_cons,noLA,ih]
   simp [pairD,noL,noLA]
 induction ws with
 | nil=>simp [noLA]
 | cons w ws ih =>
  rw [List.map_cons,noLA,ih]
  simp [wishD,noL,pr]
theorem p6' {n:Nat}{ws T:List (List (Int×Int))} (hws:∀ u∈ws,Wf n u) (h1:1<=n) (hn:n<=3) (hl:ws.length<=18) (a:IsRoof ws T) (lT:T.length<=ws.length){KE:Fl->Gm->Prop}
  (k1:∀ Γ',(∃ l,fin (List.map R.val [.lst (ws.map wishD)]) Γ'=some l)->KE (.rt (.fro ((spareL T).map wishD))) Γ'):wp eR' [some (.val (.lst (ws.map wishD))),none,none,none,none] KE:=by
 have e1:=nJ' hws h1 hn hl a
 rw [eR']
 refine ae' ?_;rintro K hK -
 simp [e1]
 refine hK _ ?_;clear hK
 refine ae' ?_;rintro K hK -
 refine ⟨_,_,rfl,hK _ ?_⟩;clear hK
 show wp _ [some (.val (.lst (ws.map wishD))),some (.fro (T.map wishD)),some (.fro (T.map wishD)),none,none] _
 refine ae' ?_;rintro K hK -
 simp
 refine aT' (J:=fun i Γ=>∃ x3 x4,Γ=[some (.val (.lst (ws.map wishD))),some (.fro (T.map wishD)),some (.fro (((T.take i).foldl spStep T).map wishD)),x3,x4]) ⟨_,_,rfl⟩ ?_ ?_
 ·rintro i d Γ hd ⟨x3,x4,rfl⟩ KL hnx - - -
  rw [List.getElem?_map,Option.map_eq_some_iff] at hd
  obtain ⟨w,hw,rfl⟩:=hd
  have hww:=hws w (a.sub (List.mem_of_getElem? hw))
  have tk:T.take (i+1)=T.take i++[w]:=by rw [List.take_succ,hw];rfl
  rw [tk,List.foldl_append] at hnx
  simp only [List.foldl_cons,List.foldl_nil] at hnx
  have sb:=fo' (T.take i) T
  generalize (T.take i).foldl spStep T=stay at *
  have sl:=sb.length_le
  have hst:∀ u∈stay,Wf n u:=fun u hu=>hws u (a.sub (sb.subset hu))
  have bl:(butW stay w).length<=100:=Nat.le_trans (List.length_filter_le _ _) (by omega)
  obtain ⟨x,e2⟩:=l5' (ws:=butW stay w) (fun u hu=>hst u (su'.mp hu).1) bl hn hww
  simp
  refine ae' ?_;rintro K hK -
  simp
  refine bg' stay wishD (fun u=>!decide (u=w)) wishD ?_
  simp [em']
  refine ⟨by omega,fun u hu=>.inl (by have:=ek' (w:=u);omega),hK _ ?_⟩;clear hK
  change wp _ [_,_,_,_,some (.fro ((butW stay w).map wishD))] _
  simp [e2,uM']
  by_cases c:inB1 (butW stay w) w=true
  ·rw [show spStep stay w=butW stay w from if_pos c] at hnx
   simp [c,deq,dep]
   exact hnx _ ⟨_,_,rfl⟩
  ·rw [show spStep stay w=stay from if_neg c] at hnx
   simp [c,deq,dep]
   exact hnx _ ⟨_,_,rfl⟩
 ·rintro Γ ⟨x3,x4,rfl⟩
  refine hK _ ?_
  rw [List.length_map,List.take_length]
  simp
  exact k1 _ ⟨_,rfl⟩
theorem p7' {n:Nat}{ws T:List (List (Int×Int))} (hws:∀ u∈ws,Wf n u) (h1:1<=n) (hn:n<=3) (hl:ws.length<=18) (a:IsRoof ws T) (lT:T.length<=ws.length):coF eS' [.lst (ws.map wishD)]=some ((spareL T).map wishD) :=
 uk' rfl ra' fun KE k1=>p6' hws h1 hn hl a lT k1
theorem p8' {n:Nat}{ws:List (List (Int×Int))}{w:List (Int×Int)} (hws:∀ u∈ws,Wf n u) (hl:ws.length<=1000) (hn:n<=3) (hw:Wf n w):cvF dE' [.lst (ws.map wishD),wishD w]=some (.bl (inB1 ws w)):=by
 have e9:=or' hw.all (by rw [hw.len];omega)
 rw [mQ'] at e9
 refine bD' rfl fun KE k1 _=>?_
 rw [eK']
 refine ae' ?_;rintro K hK hR
 simp [e9]
 refine aT' (J:=fun i Γ=>(∀ l∈(lettersR w).take i,∃ u∈ws,hasB u l=true)/\∃ x2,Γ=[some (.val (.lst (ws.map wishD))),some (.val (wishD w)),x2]) ⟨by simp,_,rfl⟩ ?_ ?_
 ·rintro i d Γ hd ⟨had,x2,rfl⟩ KL hnx - - hrt
  rw [List.getElem?_map,Option.map_eq_some_iff] at hd
  obtain ⟨l,hl',rfl⟩:=hd
  have lm:=List.mem_of_getElem? hl'
  obtain ⟨ll,lh⟩:=fn'.mp lm
  have tk:(lettersR w).take (i+1)=(lettersR w).take i++[l]:=by rw [List.take_succ,hl'];rfl
  simp
  refine bg' ws wishD (fun u=>hasB u l) (fun _=>.int 1) ?_
  simp
  refine ⟨by omega,fun v hv=>?_,?_⟩
  ·have:=g4' (w:=v) (l:=l) (by rw [(hws v hv).len,ll,hw.len]) (by rw [(hws v hv).len];omega)
   simp [this]
  ·split
   ·rename_i no
    have:inB1 ws w=false:=by
     rw [Bool.eq_false_iff]
     intro z
     obtain ⟨u,h1,h2⟩:=l4'.mp z l lm
     rw [no u h1] at h2
     cases h2
    rw [this] at k1
    exact hrt _ _ (hR _ _ (k1 _ ⟨_,rfl⟩))
   ·rename_i yes
    refine hnx _ ⟨fun l' h'=>?_,_,rfl⟩
    rw [tk] at h'
    rcases List.mem_append.mp h' with z | z
    ·exact had l' z
    ·rw [List.mem_singleton.mp z]
     simp at yes
     obtain ⟨u,h1,h2⟩:=yes
     exact ⟨u,h1,h2⟩
 ·rintro Γ ⟨had,x2,rfl⟩
  refine hK _ ?_
  rw [List.length_map,List.take_length] at had
  have:inB1 ws w=true:=l4'.mpr had
  rw [this] at k1
  simp
  exact k1 _ ⟨_,rfl⟩
theorem ko' {n:Nat}{ws:List (List (Int×Int))} (hws:∀ u∈ws,Wf n u) (hn:n<=3) (hl:ws.length<=1000):SzK 8 (.lst (ws.map wishD)):=by
 refine ⟨by simp;omega,fun d hd=>?_⟩
 obtain ⟨w,hw,rfl⟩:=List.mem_map.mp hd
 have:=(hws w hw).len
 refine ⟨by simp;omega,fun d hd=>?_⟩
 obtain ⟨p,hp,rfl⟩:=List.mem_map.mp hd
 refine ⟨by simp,fun d hd=>?_⟩
 simp at hd
 rcases hd with rfl | rfl<;>simp [SzK]
def Adj (rs:List (Int×Int)) (a b:Int):Prop:=(a,b)∈rs\/(b,a)∈rs
theorem Adj.symm {rs:List (Int×Int)}{a b:Int} (h:Adj rs a b):Adj rs b a:=h.elim .inr .inl
structure Web (n:Nat) (rs:List (Int×Int)) (rk:Int->Nat):Prop where
 n1:1<=n
 n8:n<=8
 lt:∀ r∈rs,0<=r.1/\r.1 < r.2/\r.2 < n
 nd:rs.Nodup
 ne:∀ a b,Adj rs a b->rk a≠rk b
 rk8:∀ a b,Adj rs a b->rk a < 8
 one:∀ v a b,Adj rs v a->Adj rs v b->rk a < rk v->rk b < rk v->a=b
def Par (rs:List (Int×Int)) (rk:Int->Nat) (v p:Int):Prop:=Adj rs v p/\rk p < rk v
inductive Desc (rs:List (Int×Int)) (rk:Int->Nat) (x:Int):Int->Prop where
 | refl:Desc rs rk x x
 | up {v p:Int} (a:Par rs rk v p) (d:Desc rs rk x p):Desc rs rk x v
def Wl (N:Int->List Int):Nat->Option Int->Int->List Int
 | 0,_,h=>[h]
 | k+1,c,h=>h::((N h).filter fun u=>decide (some u≠c)).flatMap (Wl N k (some h))
theorem jG' {N:Int->List Int}{k:Nat}{c:Option Int}{h:Int}:h∈Wl N k c h:=by
 cases k<;>exact List.mem_cons_self
theorem ga' {N:Int->List Int}{k:Nat}{c:Option Int}{h v:Int}:v∈Wl N (k+1) c h↔v=h\/∃ u,u∈N h/\some u≠c/\v∈Wl N k (some h) u:=by
 rw [Wl,List.mem_cons,List.mem_flatMap]
 simp only [List.mem_filter,decide_eq_true_eq,and_assoc]
section
variable {n:Nat}{rs:List (Int×Int)}{rk:Int->Nat}{N:Int->List Int}
theorem Desc.rk_le {x v:Int} (h:Desc rs rk x v):rk x<=rk v:=by
 induction h with
 | refl=>exact Nat.le_refl _
 | up a _ ih=>exact Nat.le_trans ih (Nat.le_of_lt a.2)
theorem Desc.trans {x y v:Int} (h1:Desc rs rk x y) (h2:Desc rs rk y v):Desc rs rk x v:=by
 induction h2 with
 | refl=>exact h1
 | up a _ ih=>exact .up a ih
theorem Web.chain (W:Web n rs rk){a b v:Int} (h1:Desc rs rk a v) (h2:Desc rs rk b v):Desc rs rk a b\/Desc rs rk b a:=by
 induction h1 with
 | refl=>exact .inr h2
 | @up v p q d ih =>
  cases h2 with
  | refl=>exact .inl (.up q d)
  | @up _ p' q' d' =>
   have:=W.one v p p' q.1 q'.1 q.2 q'.2
   subst this
   exact ih d'
theorem Web.sib0 (W:Web n rs rk){a b h:Int} (pa:Par rs rk a h) (pb:Par rs rk b h) (d:Desc rs rk a b):a=b:=by
 cases d with
 | refl=>rfl
 | @up _ p q d' =>
  have:=W.one b p h q.1 pb.1 q.2 pb.2
  subst this
  have:=d'.rk_le
  have:=pa.2
  omega
theorem Web.sib (W:Web n rs rk){a b h v:Int} (pa:Par rs rk a h) (pb:Par rs rk b h) (h1:Desc rs rk a v) (h2:Desc rs rk b v):a=b:=by
 rcases W.chain h1 h2 with d | d
 ·exact W.sib0 pa pb d
 ·exact (W.sib0 pb pa d).symm
def Side (rs:List (Int×Int)) (rk:Int->Nat) (c h v:Int):Prop:=(rk c < rk h/\Desc rs rk h v)\/(rk h < rk c/\¬ Desc rs rk c v)
theorem Web.side (W:Web n rs rk) (hN:∀ v u,u∈N v↔Adj rs v u):∀ (k:Nat) (c h:Int),Adj rs c h->∀ v∈Wl N k (some c) h,Side rs rk c h v:=by
 have base:∀ c h,Adj rs c h->Side rs rk c h h:=fun c h a=>by
  have:=W.ne c h a
  by_cases l:rk c < rk h
  ·exact .inl ⟨l,.refl⟩
  ·exact .inr ⟨by omega,fun d=>by have:=d.rk_le;omega⟩
 intro k
 induction k with
 | zero=>intro c h a v hv;rw [Wl,List.mem_singleton] at hv;subst hv;exact base c v a
 | succ k ih =>
  intro c h a v hv
  rcases ga'.mp hv with rfl | ⟨u,hu,hc,hv⟩
  ·exact base c v a
  ·have au:=(hN h u).mp hu
   have hc:u≠c:=fun z=>hc (by rw [z])
   have s:=ih h u au v hv
   have n1:=W.ne c h a
   have n2:=W.ne h u au
   by_cases l:rk c < rk h
   ·rcases s with ⟨s1,s2⟩ | ⟨s1,_⟩
    ·exact .inl ⟨l,.trans (.up ⟨au.symm,s1⟩ .refl) s2⟩
    ·exact absurd (W.one h u c au a.symm s1 l) hc
   ·have l:rk h < rk c:=by omega
    have pc:Par rs rk c h:=⟨a,l⟩
    refine .inr ⟨l,fun d=>?_⟩
    rcases s with ⟨s1,s2⟩ | ⟨s1,s2⟩
    ·exact hc (W.sib (h:=h) ⟨au.symm,s1⟩ pc s2 d)
    ·exact s2 (.trans (.up pc .refl) d)
theorem Web.back (W:Web n rs rk) (hN:∀ v u,u∈N v↔Adj rs v u){k:Nat}{c h:Int} (a:Adj rs c h):c∉Wl N k (some c) h:=fun m=>by
 rcases W.side hN k c h a c m with ⟨s1,s2⟩ | ⟨_,s2⟩
 ·have:=s2.rk_le;omega
 ·exact s2 .refl
theorem Web.apart (W:Web n rs rk) (hN:∀ v u,u∈N v↔Adj rs v u){k:Nat}{h a b v:Int} (ha:Adj rs h a) (hb:Adj rs h b) (h1:v∈Wl N k (some h) a) (h2:v∈Wl N k (some h) b):a=b:=by
 rcases W.side hN k h a ha v h1 with ⟨s1,s2⟩ | ⟨s1,s2⟩<;>rcases W.side hN k h b hb v h2 with ⟨t1,t2⟩ | ⟨t1,t2⟩
 ·exact W.sib (h:=h) ⟨ha.symm,s1⟩ ⟨hb.symm,t1⟩ s2 t2
 ·exact absurd (.trans (.up ⟨ha.symm,s1⟩ .refl) s2) t2
 ·exact absurd (.trans (.up ⟨hb.symm,t1⟩ .refl) t2) s2
 ·exact W.one h a b ha hb s1 t1
theorem i5' {α β:Type}{f:α->List β}:∀ {l:List α},l.Nodup->(∀ x∈l,(f x).Nodup)->(∀ x∈l,∀ y∈l,∀ v,v∈f x->v∈f y->x=y)->(l.flatMap f).Nodup
 | [],_,_,_=>List.nodup_nil
 | x::l,hn,h1,h2=>by
  rw [List.flatMap_cons,List.nodup_append]
  rw [List.nodup_cons] at hn
  refine ⟨h1 x List.mem_cons_self,i5' hn.2 (fun y hy=>h1 y (List.mem_cons_of_mem _ hy)) (fun y hy z hz=>h2 y (List.mem_cons_of_mem _ hy) z (List.mem_cons_of_mem _ hz)),fun v hv u hu e=>?_⟩
  subst e
  obtain ⟨y,hy,hv'⟩:=List.mem_flatMap.mp hu
  have:=h2 x List.mem_cons_self y (List.mem_cons_of_mem _ hy) v hv hv'
  subst this
  exact hn.1 hy
theorem Web.nodup (W:Web n rs rk) (hN:∀ v u,u∈N v↔Adj rs v u) (hn:∀ v,(N v).Nodup):∀ (k:Nat) (c:Option Int) (h:Int),(Wl N k c h).Nodup:=by
 intro k
 induction k with
 | zero=>intro c h;rw [Wl];exact List.nodup_cons.mpr ⟨by simp,List.nodup_nil⟩
 | succ k ih =>
  intro c h
  rw [Wl,List.nodup_cons]
  refine ⟨fun m=>?_,i5' ((hn h).filter _) (fun u hu=>ih _ _) fun u hu v hv x h1 h2=>?_⟩
  ·obtain ⟨u,hu,m⟩:=List.mem_flatMap.mp m
   exact W.back hN ((hN h u).mp (List.mem_filter.mp hu).1) m
  ·exact W.apart hN ((hN h u).mp (List.mem_filter.mp hu).1) ((hN h v).mp (List.mem_filter.mp hv).1) h1 h2
def mu (rk:Int->Nat):Option Int->Int->Nat
 | none,_=>18
 | some c,h=>if rk c < rk h then 8 - rk h else 9+rk h
theorem Web.mu_lt (W:Web n rs rk){c:Option Int}{h u:Int} (hc:∀ x,c=some x->Adj rs x h) (hu:Adj rs h u) (ne:some u≠c):mu rk (some h) u < mu rk c h:=by
 have n2:=W.ne h u hu
 have r1:=W.rk8 h u hu
 have r2:=W.rk8 u h hu.symm
 cases c with
 | none=>simp only [mu];split<;>omega
 | some c =>
  have a:=hc c rfl
  have n1:=W.ne c h a
  simp only [mu]
  by_cases l:rk c < rk h
  ·rw [if_pos l]
   by_cases m:rk h < rk u
   ·rw [if_pos m];omega
   ·exact absurd (W.one h u c hu a.symm (by omega) l) (fun z=>ne (by rw [z]))
  ·rw [if_neg l]
   split<;>omega
theorem Web.closed (W:Web n rs rk) (hN:∀ v u,u∈N v↔Adj rs v u):∀ (k:Nat) (c:Option Int) (h:Int),(∀ x,c=some x->Adj rs x h)->mu rk c h < k->∀ v u,v∈Wl N k c h->u∈N v->some u≠c->u∈Wl N k c h:=by
 intro k
 induction k with
 | zero=>intro c h _ hm;omega
 | succ k ih =>
  intro c h hc hm v u hv hu ne
  rw [ga']
  rcases ga'.mp hv with rfl | ⟨w,hw,hwc,hv⟩
  ·exact .inr ⟨u,hu,ne,jG'⟩
  ·by_cases e:u=h
   ·exact .inl e
   ·have aw:=(hN h w).mp hw
    have:=W.mu_lt hc aw hwc
    exact .inr ⟨w,hw,hwc,ih (some h) w (fun x z=>by cases z;exact aw) (by omega) v u hv hu fun z=>e (by cases z;rfl)⟩
theorem p9' (S:Int->Prop) (c:Option Int) (hS:∀ v u,S v->u∈N v->some u≠c->S u):∀ (k:Nat) (c':Option Int) (h:Int),S h->(∀ v∈Wl N k c' h,some v≠c)->∀ v∈Wl N k c' h,S v:=by
 intro k
 induction k with
 | zero=>intro c' h hh _ v hv;rw [Wl,List.mem_singleton] at hv;subst hv;exact hh
 | succ k ih =>
  intro c' h hh hc v hv
  rcases ga'.mp hv with rfl | ⟨u,hu,huc,hv⟩
  ·exact hh
  ·refine ih (some h) u (hS h u hh hu (hc u (ga'.mpr (.inr ⟨u,hu,huc,jG'⟩)))) (fun w hw=>hc w (ga'.mpr (.inr ⟨u,hu,huc,hw⟩))) v hv
theorem Web.just (W:Web n rs rk) (hN:∀ v u,u∈N v↔Adj rs v u){k:Nat}{c:Option Int}{h:Int} (hc:∀ x,c=some x->Adj rs x h) (hm:mu rk c h < k){S:Int->Prop} (h0:S h) (hS:∀ v u,S v->u∈N v->some u≠c->S u) (hW:∀ v,S v->v∈Wl N k c h) (v:Int):S v↔v∈Wl N k c h:=by
 refine ⟨hW v,fun m=>p9' S c hS k c h h0 (fun w hw z=>?_) v m⟩
 subst z
 exact W.back hN (hc w rfl) hw
end
def webD (n:Nat) (rs:List (Int×Int)):D:=.tup [.int n,.tup (rs.map pairD)]
@[simp] theorem wJ' {n:Nat}{rs:List (Int×Int)}:ixF (webD n rs) (.int 0)=some (.int n):=rfl
@[simp] theorem wK' {n:Nat}{rs:List (Int×Int)}:ixF (webD n rs) (.int 1)=some (.tup (rs.map pairD)):=rfl
def sortI (xs:List Int):List Int:=xs.mergeSort fun a b=>decide (a<=b)
theorem eY' (xs:List Int):(sortI xs).Perm xs:=List.mergeSort_perm _ _
theorem qa' (xs:List Int):sortD (xs.map D.int)=(sortI xs).map D.int:=by
 unfold sortD sortI
 refine (List.map_mergeSort fun a _ b _=>?_).symm
 unfold leD
 rw [eB']
 by_cases h:a<=b
 ·rw [decide_eq_true h,decide_eq_false (by omega)];rfl
 ·rw [decide_eq_false h,decide_eq_true (by omega)];rfl
theorem rb' {xs:List Int}:depA (xs.map D.int)<=0:=dh' fun d hd=>by
 obtain ⟨n,_,rfl⟩:=List.mem_map.mp hd
 simp [dep]
theorem iB' {xs:List Int} (h:xs.length < 64):sortF [.lst (xs.map D.int)]=some ((sortI xs).map D.int):=by
 rw [iu',qa']
 refine ⟨by simpa using h,?_,by have:=rb' (xs:=xs);omega,.inl ?_⟩
 ·unfold cmAll
  rw [List.all_eq_true]
  intro a ha
  rw [List.all_eq_true]
  intro b hb
  obtain ⟨i,_,rfl⟩:=List.mem_map.mp ha
  obtain ⟨j,_,rfl⟩:=List.mem_map.mp hb
  rfl
 ·rw [List.all_eq_true]
  intro a ha
  obtain ⟨i,_,rfl⟩:=List.mem_map.mp ha
  rfl
theorem d4' {α β:Type}{f:α->β}:∀ {l:List α},l.Nodup->(∀ x∈l,∀ y∈l,f x=f y->x=y)->(l.map f).Nodup
 | [],_,_=>List.nodup_nil
 | x::l,hn,h=>by
  rw [List.nodup_cons] at hn
  rw [List.map_cons,List.nodup_cons]
  refine ⟨fun m=>?_,d4' hn.2 fun y hy z hz=>h y (List.mem_cons_of_mem _ hy) z (List.mem_cons_of_mem _ hz)⟩
  obtain ⟨y,hy,e⟩:=List.mem_map.mp m
  have:=h y (List.mem_cons_of_mem _ hy) x List.mem_cons_self e
  subst this
  exact hn.1 hy
def nbL (rs:List (Int×Int)) (h:Int):List Int:=(rs.filter fun r=>decide (h=r.1)||decide (h=r.2)).map fun r=>if r.1=h then r.2 else r.1
def nbs (rs:List (Int×Int)) (h:Int):List Int:=sortI (nbL rs h)
section
variable {n:Nat}{rs:List (Int×Int)}{rk:Int->Nat}
theorem Web.nb0 (W:Web n rs rk) (h u:Int):u∈nbL rs h↔Adj rs h u:=by
 unfold nbL Adj
 rw [List.mem_map]
 constructor
 ·rintro ⟨⟨a,b⟩,hr,e⟩
  rw [List.mem_filter] at hr
  obtain ⟨hr,c⟩:=hr
  simp only [Bool.or_eq_true,decide_eq_true_eq] at c
  simp only at e
  by_cases q:a=h
  ·rw [if_pos q] at e;subst q;subst e;exact .inl hr
  ·rw [if_neg q] at e;subst e
   rcases c with c | c
   ·exact absurd c.symm q
   ·subst c;exact .inr hr
 ·rintro (m | m)
  ·exact ⟨(h,u),List.mem_filter.mpr ⟨m,by simp⟩,if_pos rfl⟩
  ·have:=W.lt _ m
   exact ⟨(u,h),List.mem_filter.mpr ⟨m,by simp⟩,if_neg (show ¬ u=h by have:=this.2.1;simp only at this;omega)⟩
theorem Web.nb0_nodup (W:Web n rs rk) (h:Int):(nbL rs h).Nodup:=by
 unfold nbL
 refine d4' (List.Pairwise.filter _ W.nd) fun x hx y hy e=>?_
 obtain ⟨a,b⟩:=x
 obtain ⟨c,d⟩:=y
 rw [List.mem_filter] at hx hy
 have l1:=W.lt _ hx.1
 have l2:=W.lt _ hy.1
 have h1:=hx.2
 have h2:=hy.2
 simp only [Bool.or_eq_true,decide_eq_true_eq] at h1 h2
 simp only at e l1 l2
 rw [Prod.mk.injEq]
 split at e<;>split at e<;>omega
theorem Web.nb (W:Web n rs rk) (h u:Int):u∈nbs rs h↔Adj rs h u:=by
 unfold nbs
 rw [(eY' _).mem_iff]
 exact W.nb0 h u
theorem Web.nb_nodup (W:Web n rs rk) (h:Int):(nbs rs h).Nodup:=by
 unfold nbs
 exact (eY' _).symm.nodup (W.nb0_nodup h)
theorem Web.in_n (W:Web n rs rk){a b:Int} (h:Adj rs a b):0<=a/\a < n/\0<=b/\b < n:=by
 rcases h with h | h
 ·have:=W.lt _ h;simp only at this;omega
 ·have:=W.lt _ h;simp only at this;omega
theorem dj' {m:Nat}{l:List Int} (hn:l.Nodup) (h:∀ x∈l,0<=x/\x < m):l.length<=m:=by
 have:=fA' l ((List.range m).map fun k:Nat=>(k:Int)) hn fun x hx=>by
  obtain ⟨h1,h2⟩:=h x hx
  exact List.mem_map.mpr ⟨x.toNat,List.mem_range.mpr (by omega),by omega⟩
 simpa using this
theorem Web.nb_len (W:Web n rs rk) (h:Int):(nbL rs h).length<=n:=dj' (W.nb0_nodup h) fun x hx=>by
 have:=W.in_n ((W.nb0 h x).mp hx)
 omega
theorem Web.rs_len (W:Web n rs rk):rs.length<=64:=by
 have:=fA' rs ((List.range 64).map fun k:Nat=>(((k / 8:Nat):Int),((k % 8:Nat):Int))) W.nd fun r hr=>by
  have:=W.lt r hr
  have:=W.n8
  refine List.mem_map.mpr ⟨r.1.toNat*8+r.2.toNat,List.mem_range.mpr (by omega),?_⟩
  obtain ⟨a,b⟩:=r
  simp only at *
  rw [Prod.mk.injEq]
  omega
 simpa using this
end
theorem l6' {n:Nat}{rs:List (Int×Int)}{h:Int} (h0:0<=h) (h1:h < n):cvF bh' [webD n rs,.int h]=some .non:=by
 refine bD' rfl fun KE _ k2=>?_
 rw [dY']
 simp [h0,h1]
 exact k2 _ rfl ⟨_,rfl⟩
theorem bd' {a b:Int}:deq (.int a) (.int b)=decide (a=b):=by
 rw [deq]
 by_cases h:a=b<;>simp [h]
theorem hT' {a b:Int}:(a == b)=decide (a=b):=by
 by_cases h:a=b<;>simp [h]
theorem rc' {a b:Int}:(a == b)=decide (b=a):=by
 by_cases h:b=a
 ·simp [h]
 ·have:¬ a=b:=fun z=>h z.symm
  simp [h,this]
theorem sv' {h:Int}{r:Int×Int}:inF false (.int h) (pairD r)=some (.bl (decide (h=r.1)||decide (h=r.2))):=by
 unfold inF
 simp [pairD,seqI,deq,dep,depA,rc']
theorem rA' {n:Nat}{rs:List (Int×Int)}{rk:Int->Nat} (W:Web n rs rk){h:Int} (h0:0<=h) (h1:h < n):coF bi' [webD n rs,.int h]=some ((nbs rs h).map D.int):=by
 have e1:=l6' (rs:=rs) h0 h1
 have l1:=W.rs_len
 have l2:=W.nb_len h
 have l3:=W.n8
 have e2:sortF [.lst ((nbL rs h).map D.int)]=some ((nbs rs h).map D.int):=iB' (by omega)
 refine gk' rfl fun KE k1=>?_
 rw [dZ']
 refine ae' ?_;rintro K hK -
 simp [e1]
 refine hK _ ?_;clear hK
 simp
 refine bg' rs pairD (fun r=>decide (h=r.1)||decide (h=r.2)) (fun r=>.int (if r.1=h then r.2 else r.1)) ?_
 simp [sv',dep,bd']
 refine ⟨by omega,fun a b _ _=>by split<;>intro z<;>first | exact absurd (by assumption) z | exact absurd z (by assumption),?_⟩
 have e3:List.map (fun r=>D.int (if r.1=h then r.2 else r.1)) (List.filter (fun r=>decide (h=r.1)||decide (h=r.2)) rs)=(nbL rs h).map D.int:=by
  unfold nbL
  rw [List.map_map];rfl
 rw [e3,e2]
 simp
 exact k1 _ ⟨_,rfl⟩
theorem i6' {n:Nat}{rs:List (Int×Int)}{rk:Int->Nat} (W:Web n rs rk){c h:Int} (a:Adj rs c h):mu rk (some c) h < 20:=by
 have:=W.rk8 h c a.symm
 simp only [mu]
 split<;>omega
def mkR (a b:Int):Int×Int:=(if b < a then b else a,if b > a then b else a)
theorem fB' {a b:Int} (h:a≠b):(mkR a b=(a,b)/\a < b)\/(mkR a b=(b,a)/\b < a):=by
 unfold mkR
 by_cases l:b < a
 ·exact .inr ⟨by rw [if_pos l,if_neg (by omega)],l⟩
 ·exact .inl ⟨by rw [if_neg l,if_pos (by omega)],by omega⟩
structure LOk (m:Nat) (L:List (Nat×Nat)):Prop where
 inc:L.Pairwise fun p q=>p.1 < q.1
 ok:∀ q∈L,1<=q.1/\q.1 < m/\q.2 < q.1
theorem qb' {L:List (Nat×Nat)} (h:L.Pairwise fun p q=>p.1 < q.1){p q:Nat×Nat} (hp:p∈L) (hq:q∈L) (e:p.1=q.1):p=q:=by
 induction L with
 | nil=>cases hp
 | cons x L ih =>
  rw [List.pairwise_cons] at h
  rcases List.mem_cons.mp hp with hp' | hp'<;>rcases List.mem_cons.mp hq with hq' | hq'
  ·rw [hp',hq']
  ·have:=h.1 q hq';rw [← hp'] at this;omega
  ·have:=h.1 p hp';rw [← hq'] at this;omega
  ·exact ih h.2 hp' hq'
def atO (os:List Int) (k:Nat):Int:=os.getD k 0
def roadsO (os:List Int) (L:List (Nat×Nat)):List (Int×Int):=L.map fun q=>mkR (atO os q.1) (atO os q.2)
section
variable {os:List Int}{m:Nat}{L:List (Nat×Nat)}
theorem l7' {k:Nat} (h:k < os.length):atO os k=os[k]:=by
 unfold atO
 rw [List.getD_eq_getElem?_getD,List.getElem?_eq_getElem h];rfl
theorem d5' (nd:os.Nodup){k:Nat} (h:k < os.length):os.idxOf (atO os k)=k:=by
 rw [l7' h];exact nd.idxOf_getElem k h
theorem dk' (nd:os.Nodup){j k:Nat} (hj:j < os.length) (hk:k < os.length) (e:atO os j=atO os k):j=k:=by
 have h1:=d5' nd hj
 rw [e,d5' nd hk] at h1
 exact h1.symm
theorem i7' (hl:os.length=m) (nd:os.Nodup) (ok:LOk m L){rs:List (Int×Int)} (hp:rs.Perm (roadsO os L)){x y:Int} (h:Adj rs x y):∃ q∈L,(x=atO os q.1/\y=atO os q.2)\/(x=atO os q.2/\y=atO os q.1):=by
 have go:∀ a b,(a,b)∈rs->∃ q∈L,(a=atO os q.1/\b=atO os q.2)\/(a=atO os q.2/\b=atO os q.1):=fun a b h=>by
  rw [hp.mem_iff] at h
  obtain ⟨q,hq,e⟩:=List.mem_map.mp h
  have o:=ok.ok q hq
  have ne:atO os q.1≠atO os q.2:=fun z=>by have:=dk' nd (by omega) (by omega) z;omega
  refine ⟨q,hq,?_⟩
  rcases fB' ne with ⟨e1,_⟩ | ⟨e1,_⟩<;>rw [e1] at e<;>cases e
  ·exact .inl ⟨rfl,rfl⟩
  ·exact .inr ⟨rfl,rfl⟩
 rcases h with h | h
 ·exact go x y h
 ·obtain ⟨q,hq,z⟩:=go y x h
  exact ⟨q,hq,z.elim (fun z=>.inr ⟨z.2,z.1⟩) fun z=>.inl ⟨z.2,z.1⟩⟩
theorem tP' (hl:os.length=m) (nd:os.Nodup) (rng:∀ x∈os,0<=x/\x < m) (ok:LOk m L) (m1:1<=m) (m8:m<=8){rs:List (Int×Int)} (hp:rs.Perm (roadsO os L)):Web m rs fun v=>os.idxOf v:=by
 have inn:∀ k,k < m->0<=atO os k/\atO os k < m:=fun k hk=>by
  rw [l7' (by omega)];exact rng _ (List.getElem_mem _)
 have nq:∀ q∈L,atO os q.1≠atO os q.2:=fun q hq z=>by
  have o:=ok.ok q hq
  have:=dk' nd (by omega) (by omega) z
  omega
 refine ⟨m1,m8,fun r hr=>?_,hp.symm.nodup (d4' (ok.inc.imp fun h e=>by rw [e] at h;exact absurd h (Nat.lt_irrefl _)) fun p hpm q hqm e=>?_),fun a b h=>?_,fun a b h=>?_,fun v a b ha hb la lb=>?_⟩
 ·rw [hp.mem_iff] at hr
  obtain ⟨q,hq,rfl⟩:=List.mem_map.mp hr
  have o:=ok.ok q hq
  have i1:=inn q.1 (by omega)
  have i2:=inn q.2 (by omega)
  rcases fB' (nq q hq) with ⟨e,l⟩ | ⟨e,l⟩<;>rw [e]<;>simp only<;>omega
 ·have o:=ok.ok p hpm
  have o':=ok.ok q hqm
  refine qb' ok.inc hpm hqm ?_
  rcases fB' (nq p hpm) with ⟨e1,_⟩ | ⟨e1,_⟩<;>rcases fB' (nq q hqm) with ⟨e2,_⟩ | ⟨e2,_⟩<;>rw [e1,e2,Prod.mk.injEq] at e
  ·exact dk' nd (by omega) (by omega) e.1
  ·have h1:=dk' nd (by omega) (by omega) e.1
   have h2:=dk' nd (by omega) (by omega) e.2
   omega
  ·have h1:=dk' nd (by omega) (by omega) e.1
   have h2:=dk' nd (by omega) (by omega) e.2
   omega
  ·exact dk' nd (by omega) (by omega) e.2
 ·obtain ⟨q,hq,z⟩:=i7' hl nd ok hp h
  have o:=ok.ok q hq
  rcases z with ⟨rfl,rfl⟩ | ⟨rfl,rfl⟩<;>rw [d5' nd (by omega),d5' nd (by omega)]<;>omega
 ·obtain ⟨q,hq,z⟩:=i7' hl nd ok hp h
  have o:=ok.ok q hq
  rcases z with ⟨rfl,rfl⟩ | ⟨rfl,rfl⟩<;>rw [d5' nd (by omega)]<;>omega
 ·obtain ⟨q,hq,z⟩:=i7' hl nd ok hp ha
  obtain ⟨q',hq',z'⟩:=i7' hl nd ok hp hb
  have o:=ok.ok q hq
  have o':=ok.ok q' hq'
  have e1:v=atO os q.1/\a=atO os q.2:=by
   rcases z with z | ⟨rfl,rfl⟩
   ·exact z
   ·rw [d5' nd (by omega),d5' nd (by omega)] at la;omega
  have e2:v=atO os q'.1/\b=atO os q'.2:=by
   rcases z' with z' | ⟨rfl,rfl⟩
   ·exact z'
   ·rw [d5' nd (by omega),d5' nd (by omega)] at lb;omega
  have:=qb' ok.inc hq hq' (dk' nd (by omega) (by omega) (e1.1.symm.trans e2.1))
  subst this
  rw [e1.2,e2.2]
end
theorem rd' {p:Int×Int}:dep (pairD p)<=1:=by
 unfold pairD
 simp [dep,depA]
def sortP (ps:List (Int×Int)):List (Int×Int):=ps.mergeSort fun p q=>leD (pairD p) (pairD q)
theorem oz' {ps:List (Int×Int)} (h:ps.length < 64):∃ rs:List (Int×Int),sortF [.lst (ps.map pairD)]=some (rs.map pairD)/\rs.Perm ps/\rs=sortP ps:=by
 refine ⟨ps.mergeSort fun p q=>leD (pairD p) (pairD q),?_,List.mergeSort_perm _ _,rfl⟩
 rw [iu']
 ·unfold sortD
  exact congrArg some (List.map_mergeSort (s:=leD) (f:=pairD) fun a _ b _=>rfl).symm
 ·refine ⟨by simpa using h,?_,?_,.inr (.inl ?_)⟩
  ·unfold cmAll
   rw [List.all_eq_true]
   intro a ha
   rw [List.all_eq_true]
   intro b hb
   obtain ⟨i,_,rfl⟩:=List.mem_map.mp ha
   obtain ⟨j,_,rfl⟩:=List.mem_map.mp hb
   simp [pairD,cmB,cmA]
  ·refine Nat.le_trans (dh' (n:=1) fun d hd=>?_) (by omega)
   obtain ⟨p,_,rfl⟩:=List.mem_map.mp hd
   exact rd'
  ·rw [List.all_eq_true]
   intro a ha
   obtain ⟨i,_,rfl⟩:=List.mem_map.mp ha
   rfl
abbrev WS:=List (List (Int×Int))
noncomputable def roofL (ws:WS):WS:=(jF' ws).choose
theorem bz' (ws:WS):IsRoof ws (roofL ws):=(jF' ws).choose_spec.1
theorem fC' (ws:WS):(roofL ws).length<=ws.length:=(jF' ws).choose_spec.2
noncomputable def shortL (sp:Bool) (ws:WS):WS:=if sp then spareL (roofL ws) else roofL ws
def howD (sp:Bool):D:=.str (if sp then "spare" else "roof")
theorem kp' {sp:Bool}{ws:WS}{w:List (Int×Int)} (h:w∈shortL sp ws):w∈ws:=by
 unfold shortL at h
 split at h
 ·exact (bz' ws).sub ((fo' _ _).subset h)
 ·exact (bz' ws).sub h
theorem kq' {sp:Bool}{ws:WS}:(shortL sp ws).length<=ws.length:=by
 have:=fC' ws
 unfold shortL
 split
 ·exact Nat.le_trans (fo' _ _).length_le this
 ·exact this
theorem hU' {sp:Bool}:deq (howD sp) (.str "spare")=sp/\deq (howD sp) (.str "roof")=!sp:=by
 cases sp<;>exact ⟨by decide,by decide⟩
theorem l8' {n:Nat}{sp:Bool}{ws:WS} (hws:∀ u∈ws,Wf n u) (h1:1<=n) (hn:n<=3) (hl:ws.length<=18):coF cp' [howD sp,.lst (ws.map wishD)]=some ((shortL sp ws).map wishD):=by
 have e1:=nJ' hws h1 hn hl (bz' ws)
 have e2:=p7' hws h1 hn hl (bz' ws) (fC' ws)
 refine gk' rfl fun KE k1=>?_
 rw [gl']
 refine ae' ?_;rintro K hK hR
 simp only [pM']
 cases sp with
 | true =>
  have q:=hU' (sp:=true)
  simp [q.1,dep,e2]
  exact hR _ _ (k1 _ ⟨_,rfl⟩)
 | false =>
  have q:=hU' (sp:=false)
  simp [q.1,dep]
  refine hK _ ?_
  simp [e1]
  exact k1 _ ⟨_,rfl⟩
theorem sw' {a b:List (List (Int×Int))}{w:List (Int×Int)} (nd:(a++w::b).Nodup):butW (a++w::b) w=a++b:=by
 have ha:w∉a:=fun h=>by
  rw [List.nodup_append] at nd
  exact nd.2.2 w h w List.mem_cons_self rfl
 have hb:w∉b:=fun h=>by
  rw [List.nodup_append] at nd
  exact (List.nodup_cons.mp nd.2.1).1 h
 unfold butW
 rw [List.filter_append,List.filter_cons,List.filter_eq_self.mpr fun u hu=>?_,List.filter_eq_self.mpr fun u hu=>?_]
 ·simp
 ·simp
  exact fun e=>hb (e▸hu)
 ·simp
  exact fun e=>ha (e▸hu)
theorem h8' {n:Nat}{sp:Bool}{ws T:List (List (Int×Int))} (hws:∀ u∈ws,Wf n u) (h1:1<=n) (hn:n<=3) (hl:ws.length < 64) (a:IsRoof ws T) (lT:T.length<=ws.length):cvF bG' [howD sp,.lst (ws.map wishD)]=some (.lst ((if sp then spareL T else T).map wishD)):=by
 obtain ⟨ss,es,ms,sl⟩:=km' ws
 obtain ⟨us,eu,mu,nu,ul⟩:=eX' ws
 have e1:=i4' hws h1 hn hl es ms sl
 rw [i3' eu mu nu es ms] at e1
 have up2:=cn' (dd (ws.map wishD))
 rw [eu] at up2
 have a2:IsRoof ws (us.filter fun w=>!undB us w):=⟨up2.sublist (List.filter_sublist.map _),nu.filter _,fun w=>by
  rw [List.mem_filter,mu,dT' mu]
  simp⟩
 rw [a2.alone a] at e1
 have hT:∀ u∈T,Wf n u:=fun u hu=>hws u (a.sub hu)
 refine bD' rfl fun KE k1 _=>?_
 rw [fO']
 refine ae' ?_;rintro K hK -
 simp [e1]
 refine hK _ ?_;clear hK
 refine ae' ?_;rintro K hK -
 simp
 refine hK _ ?_;clear hK
 refine ae' ?_;rintro K hK hR
 have q:=hU' (sp:=sp)
 cases sp with
 | false =>
  refine lJ' (fun _ Γ=>Γ=[some (.val (howD false)),some (.val (.lst (ws.map wishD))),some (.val (.lst (T.map wishD))),some (.val (.int 0)),none]) ?_ 100 0 _ (by omega) rfl
  rintro m Γ rfl
  simp [q.1,dep]
  refine hK _ ?_
  simp
  exact k1 _ ⟨_,rfl⟩
 | true =>
  obtain ⟨J,hJ⟩:∃ J:Nat->Gm->Prop,∀ m Γ,J m Γ↔∃ (b:List (List (Int×Int))) (k:Nat) (x3:Option R),k+m=T.length/\(T.take k).foldl spStep T=b++T.drop k/\Γ=[some (.val (howD true)),some (.val (.lst (ws.map wishD))),some (.val (.lst ((b++T.drop k).map wishD))),some (.val (.int b.length)),x3]:=⟨_,fun _ _=>Iff.rfl⟩
  refine lJ' J ?_ 100 T.length _ (by omega) ((hJ _ _).mpr ⟨[],0,none,by simp,by simp,by simp⟩)
  intro m Γ j
  obtain ⟨b,k,x3,hk,hf,rfl⟩:=(hJ _ _).mp j
  clear j
  have sb:=fo' (T.take k) T
  rw [hf] at sb
  have sl2:=sb.length_le
  have fl:(b++T.drop k).length=b.length+m:=by
   rw [List.length_append,List.length_drop]
   omega
  cases m with
  | zero =>
   have:T.drop k=[]:=List.drop_of_length_le (by omega)
   rw [this] at hf ⊢
   simp
   refine hK _ ?_
   have:T.take k=T:=List.take_of_length_le (by omega)
   rw [this,List.append_nil] at hf
   simp
   have:=k1 [some (.val (howD true)),some (.val (.lst (ws.map wishD))),some (.val (.lst (b.map wishD))),some (.val (.int b.length)),x3] ⟨_,rfl⟩
   unfold spareL at this
   rw [hf] at this
   exact this
  | succ m =>
   have hkT:k < T.length:=by omega
   obtain ⟨w,hw⟩:∃ w,w=T[k]:=⟨_,rfl⟩
   have dr:T.drop k=w::T.drop (k+1):=by rw [hw];exact List.drop_eq_getElem_cons hkT
   have tk:T.take (k+1)=T.take k++[w]:=by rw [List.take_succ,List.getElem?_eq_getElem hkT,hw];rfl
   have wT:w∈T:=by rw [hw];exact List.getElem_mem hkT
   have nd:(b++w::T.drop (k+1)).Nodup:=by
    rw [dr] at sb
    exact a.nd.sublist sb
   have bm:=sw' nd
   have st:(T.take (k+1)).foldl spStep T=spStep (b++w::T.drop (k+1)) w:=by
    rw [tk,List.foldl_append,hf,dr]
    rfl
   rw [dr] at fl sl2 ⊢
   rw [dr] at sb
   have ix:atI ((b++w::T.drop (k+1)).map wishD) (b.length:Int)=some (wishD w):=by
    rw [DL.iV']
    simp
   have c1:cutD ((b++w::T.drop (k+1)).map wishD) none (some (b.length:Int))=b.map wishD:=by
    rw [lF',← List.map_take]
    simp
   have c2:cutD ((b++w::T.drop (k+1)).map wishD) (some ((b.length:Int)+1)) none=(T.drop (k+1)).map wishD:=by
    rw [show (b.length:Int)+1=((b.length+1:Nat):Int) by omega,lG',← List.map_drop]
    simp [List.drop_append]
   have ol:(b++T.drop (k+1)).length<=1000:=by
    have:(b++w::T.drop (k+1)).length<=T.length:=sb.length_le
    rw [List.length_append,List.length_cons] at this
    rw [List.length_append]
    omega
   have hO:∀ u∈b++T.drop (k+1),Wf n u:=fun u hu=>hT u (sb.subset (by
    rcases List.mem_append.mp hu with z | z
    ·exact List.mem_append.mpr (.inl z)
    ·exact List.mem_append.mpr (.inr (List.mem_cons_of_mem _ z))))
   have ah:=p8' hO ol hn (hT w wT)
   rw [List.map_append,List.map_drop] at ah
   have lt:((b.length:Nat):Int) < (((b++w::T.drop (k+1)).map wishD).length:Int):=by
    rw [List.length_map,fl]
    omega
   generalize hF:(b++w::T.drop (k+1)).map wishD=F at *
   simp [lt]
   intro K2 hn2 _ _ _
   refine ae' ?_;rintro K3 hK3 -
   simp [c1,c2]
   refine ⟨?_,hK3 _ ?_⟩;clear hK3
   ·rw [List.length_append] at ol
    rw [List.length_drop] at ol
    omega
   ·simp [ix,ah]
    by_cases c:inB1 (b++T.drop (k+1)) w=true
    ·simp [c]
     refine hn2 _ ((hJ _ _).mpr ⟨b,k+1,some (.val (.lst (List.map wishD b++List.drop (k+1) (List.map wishD T)))),by omega,?_,?_⟩)
     ·rw [st]
      unfold spStep
      rw [bm,if_pos c]
     ·rw [List.map_append,List.map_drop]
    ·simp [c]
     refine hn2 _ ((hJ _ _).mpr ⟨b++[w],k+1,some (.val (.lst (List.map wishD b++List.drop (k+1) (List.map wishD T)))),by omega,?_,?_⟩)
     ·rw [st]
      unfold spStep
      rw [bm,if_neg c]
      simp
     ·simp [← hF,List.map_drop]
theorem tQ' {n:Nat}{rs:List (Int×Int)}{rk:Int->Nat} (W:Web n rs rk){a b:Int} (h:Adj rs a b):cvF c9' [webD n rs,.int a,.int b]=some .non:=by
 obtain ⟨h0,h1,h2,h3⟩:=W.in_n h
 have e1:=l6' (rs:=rs) h0 h1
 have e2:=l6' (rs:=rs) h2 h3
 have e3:=rA' W h0 h1
 have hb:b∈nbs rs a:=(W.nb a b).mpr h
 refine bD' rfl fun KE _ k2=>?_
 rw [ei']
 refine ae' ?_;rintro K hK -
 simp [e1]
 refine hK _ ?_;clear hK
 refine ae' ?_;rintro K hK -
 simp [e2]
 refine hK _ ?_;clear hK
 simp [e3,dep,bd']
 exact ⟨⟨_,⟨b,hb,rfl⟩,by simp [deq]⟩,k2 _ rfl ⟨_,rfl⟩⟩
theorem nK' {c:M Bool}{a b:M Fl}{Γ:Gm}{Q:Fl->Gm->Prop}:wp (ifS c a b) Γ Q↔wp c Γ fun k Γ1=>if k=true then wp a Γ1 Q else wp b Γ1 Q:=pM'
theorem kr' {n:Nat}{rs:List (Int×Int)}{rk:Int->Nat} (W:Web n rs rk) (h:Int):coF bM' [webD n rs,.int h]=some ((nbs rs h).map D.int):=by
 have l1:=W.nb_len h
 have l8:=W.n8
 have e1:=iB' (xs:=nbL rs h) (by omega)
 refine gk' rfl fun KE k1=>?_
 rw [fl']
 refine ae' ?_;rintro K hK -
 refine ⟨_,_,rfl,hK _ ?_⟩;clear hK
 show wp _ [some (.val (webD n rs)),some (.val (.int h)),some (.own []),none,none] _
 refine ae' ?_;rintro K hK -
 simp
 refine aT' (J:=fun i Γ=>∃ x3 x4,Γ=[some (.val (webD n rs)),some (.val (.int h)),some (.own ((nbL (rs.take i) h).map D.int)),x3,x4]) ⟨none,none,rfl⟩ ?_ ?_
 ·rintro i d Γ hd ⟨x3,x4,rfl⟩ KL hnx - - -
  rw [List.getElem?_map,Option.map_eq_some_iff] at hd
  obtain ⟨⟨a,b⟩,hr,rfl⟩:=hd
  have tk:rs.take (i+1)=rs.take i++[(a,b)]:=by rw [List.take_succ,hr];rfl
  have lt:=W.lt _ (List.mem_of_getElem? hr)
  have ab:a < b:=lt.2.1
  have ln:(nbL (rs.take i) h).length<=64:=by
   unfold nbL
   rw [List.length_map]
   refine Nat.le_trans (List.length_filter_le _ _) ?_
   rw [List.length_take]
   have:=W.rs_len
   omega
  have ap:nbL (rs.take (i+1)) h=nbL (rs.take i) h++(if a=h then [b] else if b=h then [a] else []):=by
   rw [tk]
   unfold nbL
   rw [List.filter_append,List.map_append]
   congr 1
   by_cases p:a=h
   ·subst p;simp
   ·by_cases q:b=h
    ·subst q
     have:¬ b=a:=fun z=>p z.symm
     simp [p,this]
    ·have p':¬ h=a:=fun z=>p z.symm
     have q':¬ h=b:=fun z=>q z.symm
     simp [p,q,p',q']
  rw [ap] at hnx
  generalize nbL (rs.take i) h=acc at hnx ln
  simp [pairD]
  refine ae' ?_;rintro K2 hK2 -
  by_cases p:a=h
  ·have q:¬ b=h:=by omega
   simp [dep,bd',p,isMut,R.mut]
   refine ⟨by omega,hK2 _ ?_⟩;clear hK2
   simp [dep,bd',q]
   exact hnx _ ⟨_,_,by simp [p];exact ⟨rfl,rfl⟩⟩
  ·by_cases q:b=h
   ·simp [dep,bd',p]
    refine hK2 _ ?_;clear hK2
    simp [dep,bd',q,isMut,R.mut]
    exact ⟨by omega,hnx _ ⟨_,_,by simp [p,q];exact ⟨rfl,rfl⟩⟩⟩
   ·simp [dep,bd',p]
    refine hK2 _ ?_;clear hK2
    simp [dep,bd',q]
    exact hnx _ ⟨_,_,by simp [p,q];exact ⟨rfl,rfl⟩⟩
 ·rintro Γ ⟨x3,x4,rfl⟩
  refine hK _ ?_;clear hK
  rw [List.length_map,List.take_length]
  simp [e1]
  exact k1 _ ⟨_,rfl⟩
abbrev HS:=List (Int×List (Int×Int))
def holdD (p:Int×List (Int×Int)):D:=.tup [.int p.1,wishD p.2]
@[simp] theorem wL' {p:Int×List (Int×Int)}:ixF (holdD p) (.int 0)=some (.int p.1):=rfl
@[simp] theorem wM' {p:Int×List (Int×Int)}:ixF (holdD p) (.int 1)=some (wishD p.2):=rfl
def ownW (hs:HS) (h:Int):WS:=(hs.filter fun p=>decide (p.1=h)).map (·.2)
def argW (sp:Bool) (N:Int->List Int) (hs:HS) (tlk:Option Int->Int->WS) (c:Option Int) (h:Int):WS:=ownW hs h++((N h).filter fun u=>decide (some u≠c)).flatMap (tlk (some h))
noncomputable def tl (sp:Bool) (N:Int->List Int) (hs:HS):Nat->Option Int->Int->WS
 | 0,_,_=>[]
 | k+1,c,h=>shortL sp (argW sp N hs (tl sp N hs k) c h)
def bW (N:Int->List Int) (hs:HS) (k:Nat) (c:Option Int) (h:Int):WS:=(Wl N k c h).flatMap (ownW hs)
theorem jH' {N:Int->List Int}{hs:HS}{k:Nat}{c:Option Int}{h:Int}:bW N hs (k+1) c h=ownW hs h++((N h).filter fun u=>decide (some u≠c)).flatMap (bW N hs k (some h)):=by
 unfold bW
 rw [Wl,List.flatMap_cons,List.flatMap_assoc]
theorem jI' {α β:Type}{f g:α->List β}:∀ {l:List α},(∀ x∈l,(f x).length<=(g x).length)->(l.flatMap f).length<=(l.flatMap g).length
 | [],_=>Nat.le_refl _
 | x::l,h=>by
  have h1:=h x List.mem_cons_self
  have h2:=jI' fun y hy=>h y (List.mem_cons_of_mem _ hy)
  rw [List.flatMap_cons,List.flatMap_cons,List.length_append,List.length_append]
  omega
theorem nL' {hs:HS}:∀ {L:List Int},L.Nodup->(L.flatMap (ownW hs)).length<=hs.length:=by
 induction hs with
 | nil =>
  intro L _
  have:L.flatMap (ownW [])=[]:=List.flatMap_eq_nil_iff.mpr fun _ _=>rfl
  rw [this]
  exact Nat.le_refl _
 | cons p hs ih =>
  intro L nd
  have key:∀ L:List Int,L.Nodup->(L.flatMap (ownW (p::hs))).length=(L.flatMap (ownW hs)).length+(if p.1∈L then 1 else 0):=by
   intro L
   induction L with
   | nil=>intro _;simp
   | cons x L ih2 =>
    intro nd
    rw [List.nodup_cons] at nd
    have i:=ih2 nd.2
    rw [List.flatMap_cons,List.flatMap_cons,List.length_append,List.length_append,i]
    have e:(ownW (p::hs) x).length=(ownW hs x).length+(if p.1=x then 1 else 0):=by
     unfold ownW
     by_cases q:p.1=x
     ·rw [List.filter_cons_of_pos (by simpa using q),if_pos q];simp
     ·rw [List.filter_cons_of_neg (by simpa using q),if_neg q];rfl
    rw [e]
    by_cases q:p.1=x
    ·have:p.1∉L:=by rw [q];exact nd.1
     simp [q,this,nd.1]
     omega
    ·have:¬ x=p.1:=fun z=>q z.symm
     by_cases r:p.1∈L<;>simp [q,r]<;>omega
  rw [key L nd,List.length_cons]
  have:=ih nd
  split<;>omega
section
variable {n:Nat}{rs:List (Int×Int)}{rk:Int->Nat}{f:Nat}{hs:HS}{sp:Bool}
theorem l9' {N:Int->List Int}:∀ (k:Nat) (c:Option Int) (h:Int),(tl sp N hs k c h).length<=(bW N hs k c h).length
 | 0,_,_=>Nat.zero_le _
 | k+1,c,h=>by
  rw [tl,jH']
  refine Nat.le_trans kq' ?_
  unfold argW
  rw [List.length_append,List.length_append]
  have:=jI' (l:=(N h).filter fun u=>decide (some u≠c)) (f:=tl sp N hs k (some h)) (g:=bW N hs k (some h)) fun u _=>l9' k (some h) u
  omega
theorem gb' {h:Int}{w:List (Int×Int)} (m:w∈ownW hs h):∃ p∈hs,p.1=h/\p.2=w:=by
 obtain ⟨p,hp,rfl⟩:=List.mem_map.mp m
 rw [List.mem_filter,decide_eq_true_eq] at hp
 exact ⟨p,hp.1,hp.2,rfl⟩
theorem kZ' {N:Int->List Int} (hw:∀ p∈hs,Wf f p.2):∀ (k:Nat) (c:Option Int) (h:Int),(∀ w∈tl sp N hs k c h,Wf f w)/\∀ w∈argW sp N hs (tl sp N hs k) c h,Wf f w
 | 0,c,h=>⟨fun w m=>(by cases m),fun w m=>by
  unfold argW at m
  rcases List.mem_append.mp m with m | m
  ·obtain ⟨p,hp,_,rfl⟩:=gb' m;exact hw p hp
  ·obtain ⟨u,_,m⟩:=List.mem_flatMap.mp m;cases m⟩
 | k+1,c,h=>by
  have t:∀ c h,∀ w∈tl sp N hs (k+1) c h,Wf f w:=fun c h w m=>(kZ' hw k c h).2 w (kp' m)
  refine ⟨t c h,fun w m=>?_⟩
  unfold argW at m
  rcases List.mem_append.mp m with m | m
  ·obtain ⟨p,hp,_,rfl⟩:=gb' m;exact hw p hp
  ·obtain ⟨u,_,m⟩:=List.mem_flatMap.mp m;exact t _ _ w m
theorem nM' (W:Web n rs rk) (k:Nat) (c:Option Int) (h:Int):(argW sp (nbs rs) hs (tl sp (nbs rs) hs k) c h).length<=hs.length:=by
 have e:(argW sp (nbs rs) hs (tl sp (nbs rs) hs k) c h).length<=(bW (nbs rs) hs (k+1) c h).length:=by
  rw [jH']
  unfold argW
  rw [List.length_append,List.length_append]
  have:=jI' (l:=(nbs rs h).filter fun u=>decide (some u≠c)) (f:=tl sp (nbs rs) hs k (some h)) (g:=bW (nbs rs) hs k (some h)) fun u _=>l9' k (some h) u
  omega
 exact Nat.le_trans e (nL' (W.nodup W.nb W.nb_nodup _ _ _))
end
section
variable {n:Nat}{rs:List (Int×Int)}{rk:Int->Nat}{f:Nat}{hs:HS}{sp:Bool}
def hsD (hs:HS):D:=.lst (hs.map holdD)
theorem h9' {ps:HS} (l:ps.length<=1000):coF bF' [.lst (ps.map holdD)]=some ((ps.map (·.2)).map wishD):=by
 refine gk' rfl fun KE k1=>?_
 rw [fL']
 simp
 refine bg' ps holdD (fun _=>true) (fun p=>wishD p.2) ?_
 simp
 refine ⟨by omega,?_⟩
 have:=k1 [some (.val (.lst (ps.map holdD)))] ⟨_,rfl⟩
 rw [List.map_map] at this
 exact this
theorem re' (W:Web n rs rk) (hw:∀ p∈hs,Wf f p.2) (h1:1<=f) (hf:f<=3) (hl:hs.length<=18):∀ (k:Nat) (c h:Int),Adj rs c h->mu rk (some c) h < k->coF (da' k) [webD n rs,hsD hs,howD sp,.int c,.int h]=some ((tl sp (nbs rs) hs k (some c) h).map wishD):=by
 intro k
 induction k with
 | zero=>intro c h _ hm;omega
 | succ k ih =>
  intro c h a hm
  obtain ⟨c0,c1,h0,h1'⟩:=W.in_n a
  have e1:=rA' W h0 h1'
  have e2:=h9' (ps:=hs.filter fun p=>decide (p.1=h)) (Nat.le_trans (List.length_filter_le _ _) (by omega))
  have aw:=(kZ' (sp:=sp) (N:=nbs rs) hw k (some c) h).2
  have al:=nM' (sp:=sp) (hs:=hs) W k (some c) h
  have e3:=l8' (sp:=sp) aw h1 hf (by omega)
  rw [da']
  refine gk' rfl fun KE k1=>?_
  rw [eT']
  refine ae' ?_;rintro K hK -
  simp
  refine bg' hs holdD (fun p=>decide (p.1=h)) holdD ?_
  simp [hsD,dep,bd']
  refine ⟨by omega,fun a b _=>hT',?_⟩
  simp [e2]
  refine hK _ ?_;clear hK
  refine ae' ?_;rintro K hK -
  simp [e1]
  refine aT' (J:=fun i Γ=>∃ x,Γ=[some (.val (webD n rs)),some (.val (hsD hs)),some (.val (howD sp)),some (.val (.int c)),some (.val (.int h)),some (.own ((ownW hs h++(((nbs rs h).take i).filter fun u=>decide (some u≠some c)).flatMap (tl sp (nbs rs) hs k (some h))).map wishD)),x]) ⟨none,?_⟩ ?_ ?_
  ·simp [hsD,ownW]
  ·rintro i d Γ hd ⟨x,rfl⟩ KL hnx - - -
   rw [List.getElem?_map,Option.map_eq_some_iff] at hd
   obtain ⟨u,hu,rfl⟩:=hd
   have tk:(nbs rs h).take (i+1)=(nbs rs h).take i++[u]:=by rw [List.take_succ,hu];rfl
   have au:=(W.nb h u).mp (List.mem_of_getElem? hu)
   rw [tk,List.filter_append,List.flatMap_append] at hnx
   have big:∀ j,(ownW hs h++(((nbs rs h).take j).filter fun u=>decide (some u≠some c)).flatMap (tl sp (nbs rs) hs k (some h))).length<=hs.length:=fun j=>by
    refine Nat.le_trans ?_ al
    unfold argW
    rw [List.length_append,List.length_append]
    have e:=List.flatMap_append (xs:=((nbs rs h).take j).filter fun u=>decide (some u≠some c)) (ys:=((nbs rs h).drop j).filter fun u=>decide (some u≠some c)) (f:=tl sp (nbs rs) hs k (some h))
    rw [← List.filter_append,List.take_append_drop] at e
    rw [e,List.length_append]
    omega
   have b1:=big (i+1)
   rw [tk,List.filter_append,List.flatMap_append] at b1
   rw [← List.append_assoc] at hnx b1
   generalize ownW hs h++(((nbs rs h).take i).filter fun u=>decide (some u≠some c)).flatMap (tl sp (nbs rs) hs k (some h))=L at hnx b1 ⊢
   refine ⟨_,_,rfl,?_⟩
   show wp _ [some (.val (webD n rs)),some (.val (hsD hs)),some (.val (howD sp)),some (.val (.int c)),some (.val (.int h)),some (.own (L.map wishD)),some (.val (.int u))] _
   refine nK'.mpr ⟨decide (u≠c),[some (.val (webD n rs)),some (.val (hsD hs)),some (.val (howD sp)),some (.val (.int c)),some (.val (.int h)),some (.own (L.map wishD)),some (.val (.int u))],by simp [tst,op2,bnd,nm,lft,eqF,dep,bd',asB];exact hT',?_⟩
   dsimp only
   by_cases uc:u=c
   ·rw [if_neg (by simp [uc])]
    exact ⟨_,_,rfl,hnx _ ⟨some (.val (.int u)),by simp [uc]⟩⟩
   ·have lt:=W.mu_lt (c:=some c) (fun x z=>by cases z;exact a) au (fun z=>uc (by cases z;rfl))
    have e4:=ih h u au (by omega)
    simp [uc] at b1
    rw [if_pos (by simp [uc])]
    simp [isMut,R.mut,e4]
    exact ⟨by omega,hnx _ ⟨some (.val (.int u)),by simp [uc]⟩⟩
  ·rintro Γ ⟨x,rfl⟩
   refine hK _ ?_;clear hK
   rw [List.length_map,List.take_length]
   change wp _ [some (.val (webD n rs)),some (.val (hsD hs)),some (.val (howD sp)),some (.val (.int c)),some (.val (.int h)),some (.own ((argW sp (nbs rs) hs (tl sp (nbs rs) hs k) (some c) h).map wishD)),x] _
   have tt:tl sp (nbs rs) hs (k+1) (some c) h=shortL sp (argW sp (nbs rs) hs (tl sp (nbs rs) hs k) (some c) h):=rfl
   rw [tt] at k1
   generalize argW sp (nbs rs) hs (tl sp (nbs rs) hs k) (some c) h=A at e3 k1 ⊢
   simp [e3]
   exact k1 _ ⟨_,rfl⟩
theorem sx' (W:Web n rs rk) (hw:∀ p∈hs,Wf f p.2) (h1:1<=f) (hf:f<=3) (hl:hs.length<=18):∀ (k:Nat) (c h:Int),Adj rs c h->mu rk (some c) h < k->cvF (bP' k) [webD n rs,hsD hs,howD sp,.int h,.int c]=some (.lst ((tl sp (nbs rs) hs k (some c) h).map wishD)):=by
 intro k
 induction k with
 | zero=>intro c h _ hm;omega
 | succ k ih =>
  intro c h a hm
  obtain ⟨c0,c1,h0,h1'⟩:=W.in_n a
  have e1:=kr' W h
  have aw:=(kZ' (sp:=sp) (N:=nbs rs) hw k (some c) h).2
  have al:=nM' (sp:=sp) (hs:=hs) W k (some c) h
  have e3:=h8' (sp:=sp) aw h1 hf (by omega) (bz' _) (fC' _)
  rw [bP']
  refine bD' rfl fun KE k1 _=>?_
  rw [dF']
  refine ae' ?_;rintro K hK -
  simp
  refine dK' hs holdD (fun p=>decide (p.1=h)) (fun p=>wishD p.2) ?_
  simp [hsD,holdD,dep,bd']
  refine ⟨by omega,fun a b _=>hT',?_⟩
  refine hK _ ?_;clear hK
  have e0:List.map (fun p:Int×List (Int×Int)=>wishD p.2) (List.filter (fun p=>decide (p.1=h)) hs)=(ownW hs h).map wishD:=by unfold ownW;rw [List.map_map];rfl
  rw [e0]
  change wp _ [some (.val (webD n rs)),some (.val (hsD hs)),some (.val (howD sp)),some (.val (.int h)),some (.val (.int c)),some (.val (.lst ((ownW hs h).map wishD))),none] _
  refine ae' ?_;rintro K hK -
  simp [e1]
  refine aT' (J:=fun i Γ=>∃ x,Γ=[some (.val (webD n rs)),some (.val (hsD hs)),some (.val (howD sp)),some (.val (.int h)),some (.val (.int c)),some (.val (.lst ((ownW hs h++(((nbs rs h).take i).filter fun u=>decide (some u≠some c)).flatMap (tl sp (nbs rs) hs k (some h))).map wishD))),x]) ⟨none,by simp⟩ ?_ ?_
  ·rintro i d Γ hd ⟨x,rfl⟩ KL hnx - - -
   rw [List.getElem?_map,Option.map_eq_some_iff] at hd
   obtain ⟨u,hu,rfl⟩:=hd
   have tk:(nbs rs h).take (i+1)=(nbs rs h).take i++[u]:=by rw [List.take_succ,hu];rfl
   have au:=(W.nb h u).mp (List.mem_of_getElem? hu)
   rw [tk,List.filter_append,List.flatMap_append] at hnx
   have big:∀ j,(ownW hs h++(((nbs rs h).take j).filter fun u=>decide (some u≠some c)).flatMap (tl sp (nbs rs) hs k (some h))).length<=hs.length:=fun j=>by
    refine Nat.le_trans ?_ al
    unfold argW
    rw [List.length_append,List.length_append]
    have e:=List.flatMap_append (xs:=((nbs rs h).take j).filter fun u=>decide (some u≠some c)) (ys:=((nbs rs h).drop j).filter fun u=>decide (some u≠some c)) (f:=tl sp (nbs rs) hs k (some h))
    rw [← List.filter_append,List.take_append_drop] at e
    rw [e,List.length_append]
    omega
   have b1:=big (i+1)
   rw [tk,List.filter_append,List.flatMap_append] at b1
   rw [← List.append_assoc] at hnx b1
   generalize ownW hs h++(((nbs rs h).take i).filter fun u=>decide (some u≠some c)).flatMap (tl sp (nbs rs) hs k (some h))=L at hnx b1 ⊢
   refine ⟨_,_,rfl,?_⟩
   show wp _ [some (.val (webD n rs)),some (.val (hsD hs)),some (.val (howD sp)),some (.val (.int h)),some (.val (.int c)),some (.val (.lst (L.map wishD))),some (.val (.int u))] _
   refine nK'.mpr ⟨decide (u≠c),[some (.val (webD n rs)),some (.val (hsD hs)),some (.val (howD sp)),some (.val (.int h)),some (.val (.int c)),some (.val (.lst (L.map wishD))),some (.val (.int u))],by simp [tst,op2,bnd,nm,lft,eqF,dep,bd',asB];exact hT',?_⟩
   dsimp only
   by_cases uc:u=c
   ·rw [if_neg (by simp [uc])]
    exact ⟨_,_,rfl,hnx _ ⟨some (.val (.int u)),by simp [uc]⟩⟩
   ·have lt:=W.mu_lt (c:=some c) (fun x z=>by cases z;exact a) au (fun z=>uc (by cases z;rfl))
    have e4:=ih h u au (by omega)
    simp [uc] at b1
    rw [if_pos (by simp [uc])]
    simp [e4]
    exact ⟨by omega,hnx _ ⟨some (.val (.int u)),by simp [uc]⟩⟩
  ·rintro Γ ⟨x,rfl⟩
   refine hK _ ?_;clear hK
   rw [List.length_map,List.take_length]
   change wp _ [some (.val (webD n rs)),some (.val (hsD hs)),some (.val (howD sp)),some (.val (.int h)),some (.val (.int c)),some (.val (.lst ((argW sp (nbs rs) hs (tl sp (nbs rs) hs k) (some c) h).map wishD))),x] _
   have tt:tl sp (nbs rs) hs (k+1) (some c) h=(if sp then spareL (roofL (argW sp (nbs rs) hs (tl sp (nbs rs) hs k) (some c) h)) else roofL (argW sp (nbs rs) hs (tl sp (nbs rs) hs k) (some c) h)):=rfl
   rw [tt] at k1
   generalize argW sp (nbs rs) hs (tl sp (nbs rs) hs k) (some c) h=A at e3 k1 ⊢
   simp [e3]
   exact k1 _ ⟨_,rfl⟩
theorem rf' (W:Web n rs rk) (hw:∀ p∈hs,Wf f p.2) (h1:1<=f) (hf:f<=3) (hl:hs.length<=18){c h:Int} (a:Adj rs c h):coF eU' [webD n rs,hsD hs,howD sp,.int c,.int h]=some ((tl sp (nbs rs) hs 20 (some c) h).map wishD):=by
 have e1:=re' (sp:=sp) W hw h1 hf hl 20 c h a (i6' W a)
 have e2:=tQ' W a
 have e3:=h9' (ps:=hs) (by omega)
 have e4:cvF aE' [.lst ((hs.map (·.2)).map wishD)]=some .non:=i1' (n:=f) fun d hd=>by
  obtain ⟨w,hw',rfl⟩:=List.mem_map.mp hd
  obtain ⟨p,hp,rfl⟩:=List.mem_map.mp hw'
  exact ⟨_,rfl,by rw [List.length_map];exact (hw p hp).len⟩
 refine gk' rfl fun KE k1=>?_
 rw [gm']
 refine ae' ?_;rintro K hK -
 change coF bF' [hsD hs]=_ at e3
 generalize (hs.map (·.2)).map wishD=ws at e3 e4
 simp [e3,e4]
 refine hK _ ?_;clear hK
 refine ae' ?_;rintro K hK -
 simp [e2]
 refine hK _ ?_;clear hK
 simp [e1]
 exact k1 _ ⟨_,rfl⟩
end
@[simp] theorem vH' {l:List D}{d:D}:lastF (.lst (l++[d]))=some d:=by simp [lastF]
@[simp ↓] theorem vI' {i:Nat}{Γ:Gm}{Q:D->Gm->Prop}:wp (popV i) Γ Q↔isMut Γ i=true/\wp (look i) Γ fun l Γ1=>wp (lft (lastF l)) Γ1 fun d Γ2=>wp (wr i fun ds=>some ds.dropLast) Γ2 fun _ Γ3=>Q d Γ3:=by
 simp only [popV,c8',aP',du']
theorem IsRoof.swap {f:Nat}{ws vs S T:WS} (b:IsRoof vs S) (hws:∀ u∈ws,Wf f u) (hvs:∀ u∈vs,Wf f u) (c:IsRoof (ws++vs) T):IsRoof (ws++S) T:=by
 have hS:∀ u∈S,Wf f u:=fun u hu=>hvs u (b.sub hu)
 have h1:=(bz' ws).cat b hws hvs c
 have h2:=(bz' ws).cat (b.self hvs) hws hS (bz' (ws++S))
 rw [h1.alone h2]
 exact bz' _
theorem ks' {f:Nat}{F G:Int->WS}{T:WS} (hF:∀ u w,w∈F u->Wf f w):∀ (us:List Int) (A:WS),(∀ u∈us,IsRoof (F u) (G u))->(∀ w∈A,Wf f w)->IsRoof (A++us.flatMap F) T->IsRoof (A++us.flatMap G) T
 | [],A,_,_,h=>h
 | u::us,A,hr,hA,h=>by
  have gw:∀ x∈us,∀ w∈G x,Wf f w:=fun x hx w m=>hF x w ((hr x (List.mem_cons_of_mem _ hx)).sub m)
  rw [List.flatMap_cons,← List.append_assoc] at h
  have h1:=ks' hF us (A++F u) (fun x hx=>hr x (List.mem_cons_of_mem _ hx)) (fun w m=>by
   rcases List.mem_append.mp m with m | m
   ·exact hA w m
   ·exact hF u w m) h
  have h2:IsRoof ((A++us.flatMap G)++F u) T:=h1.congr fun w=>by simp only [List.mem_append];exact or_right_comm
  have h3:=(hr u List.mem_cons_self).swap (f:=f) (fun w m=>by
   rcases List.mem_append.mp m with m | m
   ·exact hA w m
   ·obtain ⟨x,hx,m⟩:=List.mem_flatMap.mp m;exact gw x hx w m) (hF u) h2
  refine h3.congr fun w=>?_
  rw [List.flatMap_cons]
  simp only [List.mem_append]
  constructor
  ·rintro (m | m | m)
   ·exact .inl (.inl m)
   ·exact .inr m
   ·exact .inl (.inr m)
  ·rintro ((m | m) | m)
   ·exact .inl m
   ·exact .inr (.inr m)
   ·exact .inr (.inl m)
section
variable {n:Nat}{rs:List (Int×Int)}{rk:Int->Nat}{f:Nat}{hs:HS}{sp:Bool}
theorem uN' {N:Int->List Int} (hw:∀ p∈hs,Wf f p.2){k:Nat}{c:Option Int}{h:Int}:∀ w∈bW N hs k c h,Wf f w:=fun w m=>by
 obtain ⟨v,_,m⟩:=List.mem_flatMap.mp m
 obtain ⟨p,hp,_,rfl⟩:=gb' m
 exact hw p hp
theorem tR' (hw:∀ p∈hs,Wf f p.2){h:Int}:∀ w∈ownW hs h,Wf f w:=fun w m=>by
 obtain ⟨p,hp,_,rfl⟩:=gb' m
 exact hw p hp
theorem nN' (W:Web n rs rk) (hw:∀ p∈hs,Wf f p.2):∀ (k:Nat) (c:Option Int) (h:Int),(∀ x,c=some x->Adj rs x h)->mu rk c h < k->IsRoof (bW (nbs rs) hs k c h) (tl false (nbs rs) hs k c h)
 | 0,_,_,_,hm=>by omega
 | k+1,c,h,hc,hm=>by
  have h1:=bz' (bW (nbs rs) hs (k+1) c h)
  have h2:IsRoof (argW false (nbs rs) hs (tl false (nbs rs) hs k) c h) (roofL (bW (nbs rs) hs (k+1) c h)):=by
   unfold argW
   refine ks' (f:=f) (F:=bW (nbs rs) hs k (some h)) (fun u w m=>uN' hw w m) _ _ (fun u hu=>?_) (tR' hw) ?_
   ·rw [List.mem_filter,decide_eq_true_eq] at hu
    have au:=(W.nb h u).mp hu.1
    have lt:=W.mu_lt hc au hu.2
    exact nN' W hw k (some h) u (fun x z=>by cases z;exact au) (by omega)
   ·have:=h1
    rw [jH'] at this ⊢
    exact this
  have e:tl false (nbs rs) hs (k+1) c h=roofL (argW false (nbs rs) hs (tl false (nbs rs) hs k) c h):=rfl
  rw [e,(bz' (argW false (nbs rs) hs (tl false (nbs rs) hs k) c h)).alone h2]
  exact h1
theorem oA' {ws T:WS} (hws:∀ u∈ws,Wf f u) (h1:1<=f) (hf:f<=3) (hl:ws.length < 64) (a:IsRoof ws T):cvF bE' [.lst (ws.map wishD)]=some (.lst (T.map wishD)):=by
 obtain ⟨ss,es,ms,sl⟩:=km' ws
 obtain ⟨us,eu,mu,nu,ul⟩:=eX' ws
 have e1:=i4' hws h1 hf hl es ms sl
 rw [i3' eu mu nu es ms] at e1
 have up2:=cn' (dd (ws.map wishD))
 rw [eu] at up2
 have a2:IsRoof ws (us.filter fun w=>!undB us w):=⟨up2.sublist (List.filter_sublist.map _),nu.filter _,fun w=>by
  rw [List.mem_filter,mu,dT' mu]
  simp⟩
 rw [a2.alone a] at e1
 exact e1
theorem nx' {xs:List D}:deq (.lst xs) (.lst [])=xs.isEmpty:=by
 cases xs<;>simp [deq,deqA]
theorem oB' (W:Web n rs rk){k:Nat}{c:Option Int}{h:Int} (h0:0<=h) (h1:h < n){v:Int} (m:v∈Wl (nbs rs) k c h):0<=v/\v < n :=
 p9' (N:=nbs rs) (fun v=>0<=v/\v < n) none (fun v u _ hu _=>by have:=W.in_n ((W.nb v u).mp hu);omega) k c h ⟨h0,h1⟩ (fun v _ z=>by cases z) v m
theorem ma' (W:Web n rs rk){c h:Int} (a:Adj rs c h):∃ l:List Int,coF cX' [webD n rs,.int c,.int h]=some (l.map D.int)/\(∀ v,v∈l↔v∈Wl (nbs rs) 20 (some c) h)/\l.length<=8:=by
 obtain ⟨c0,c1,h0,h1⟩:=W.in_n a
 have l8:=W.n8
 have clo:=W.closed W.nb 20 (some c) h (fun x z=>by cases z;exact a) (i6' W a)
 have key:wpF cX' ([webD n rs,.int c,.int h].map .val) fun r _=>∃ l:List Int,r=.own (l.map D.int)/\(∀ v,v∈l↔v∈Wl (nbs rs) 20 (some c) h)/\l.length<=8:=by
  refine dN' rfl fun KE hE _=>?_
  rw [fm']
  refine ae' ?_;rintro K hK -
  refine ⟨_,_,rfl,hK _ ?_⟩;clear hK
  refine ae' ?_;rintro K hK -
  refine ⟨_,_,rfl,hK _ ?_⟩;clear hK
  show wp _ [some (.val (webD n rs)),some (.val (.int c)),some (.val (.int h)),some (.own [.int h]),some (.own [.int h]),none,none] _
  refine ae' ?_;rintro K hK -
  obtain ⟨J,hJ⟩:∃ J:Nat->Gm->Prop,∀ m Γ,J m Γ↔∃ (F Q:List Int) (x5 x6:Option R),F.Nodup/\(∀ v∈F,v∈Wl (nbs rs) 20 (some c) h)/\(∀ v∈Q,v∈F)/\h∈F/\(∀ v∈F,v∉Q->∀ u∈nbs rs v,u≠c->u∈F)/\2*(8 - F.length)+Q.length<=m/\m<=15/\Γ=[some (.val (webD n rs)),some (.val (.int c)),some (.val (.int h)),some (.own (F.map D.int)),some (.own (Q.map D.int)),x5,x6]:=⟨_,fun _ _=>Iff.rfl⟩
  refine lJ' J ?_ 100 15 _ (by omega) ((hJ _ _).mpr ⟨[h],[h],none,none,by simp,fun v hv=>by rw [List.mem_singleton.mp hv];exact jG',fun v hv=>hv,by simp,fun v hv hn=>absurd hv hn,by simp,by omega,rfl⟩)
  intro m Γ j
  obtain ⟨F,Q,x5,x6,nd,sub,qf,hF,cl,me,m15,rfl⟩:=(hJ _ _).mp j
  clear j
  have lF:F.length<=n:=dj' nd fun v hv=>oB' W h0 h1 (sub v hv)
  rcases List.eq_nil_or_concat Q with rfl | ⟨Q,q,rfl⟩
  ·simp [isMut,R.mut,nx',dep]
   refine ⟨by decide,hK _ ?_⟩;clear hK
   have e1:=iB' (xs:=F) (by omega)
   simp [e1]
   refine hE _ _ ⟨_,rfl,sortI F,rfl,fun v=>?_,by rw [(eY' _).length_eq];omega⟩
   rw [(eY' _).mem_iff]
   exact W.just W.nb (S:=fun v=>v∈F) (fun x z=>by cases z;exact a) (i6' W a) hF (fun v u hv hu uc=>cl v hv (by simp) u hu fun z=>uc (by rw [z])) (fun v hv=>sub v hv) v
  ·have hq:=qf q (by simp)
   have e1:=kr' W q
   rw [List.concat_eq_append,List.length_append,List.length_singleton] at me
   obtain ⟨m',rfl⟩:∃ m',m=m'+1:=⟨m - 1,by omega⟩
   simp [isMut,R.mut,dep]
   refine ⟨.inr (by simp [depA]),fun K1 nx _ _ _=>?_⟩
   refine ae' ?_;rintro K2 hK2 -
   simp [isMut,R.mut]
   refine hK2 _ ?_;clear hK2
   simp [e1]
   refine aT' (J:=fun i Γ=>∃ (F2 Q2:List Int) (x6:Option R),Γ=[some (.val (webD n rs)),some (.val (.int c)),some (.val (.int h)),some (.own (F2.map D.int)),some (.own (Q2.map D.int)),some (.val (.int q)),x6] ∧
    F2.Nodup/\(∀ v∈F2,v∈Wl (nbs rs) 20 (some c) h)/\(∀ v∈Q2,v∈F2)/\h∈F2/\q∈F2/\(∀ v∈F2,v≠q->v∉Q2->∀ u∈nbs rs v,u≠c->u∈F2)/\(∀ u∈(nbs rs q).take i,u≠c->u∈F2)/\2*(8 - F2.length)+Q2.length<=m') ?_ ?_ ?_
   ·exact ⟨F,Q,_,rfl,nd,sub,fun v hv=>qf v (by simp [hv]),hF,hq,fun v hv vq vQ=>cl v hv (by simp [vQ,vq]),by simp,by omega⟩
   ·rintro i d Γ hd ⟨F2,Q2,x6,rfl,nd,sub,qf,hF,hq,cl,tk,me⟩ KL hnx - - -
    rw [List.getElem?_map,Option.map_eq_some_iff] at hd
    obtain ⟨u,hu,rfl⟩:=hd
    have tk':(nbs rs q).take (i+1)=(nbs rs q).take i++[u]:=by rw [List.take_succ,hu];rfl
    have lF:F2.length<=n:=dj' nd fun v hv=>oB' W h0 h1 (sub v hv)
    have lQ:Q2.length<=17:=by omega
    refine ⟨_,_,rfl,?_⟩
    show wp _ [some (.val (webD n rs)),some (.val (.int c)),some (.val (.int h)),some (.own (F2.map D.int)),some (.own (Q2.map D.int)),some (.val (.int q)),some (.val (.int u))] _
    by_cases uc:u=c
    ·simp [dep,bd',uc]
     refine hnx _ ⟨F2,Q2,_,rfl,nd,sub,qf,hF,hq,cl,fun x hx xc=>?_,me⟩
     rw [tk'] at hx
     rcases List.mem_append.mp hx with hx | hx
     ·exact tk x hx xc
     ·rw [List.mem_singleton.mp hx] at xc;exact absurd uc xc
    ·by_cases uF:u∈F2
     ·have an:¬ ∀ x:Int,x∈F2->¬ x=u:=fun z=>z u uF rfl
      simp [dep,bd',uc]
      rw [if_neg an]
      refine hnx _ ⟨F2,Q2,_,rfl,nd,sub,qf,hF,hq,cl,fun x hx xc=>?_,me⟩
      rw [tk'] at hx
      rcases List.mem_append.mp hx with hx | hx
      ·exact tk x hx xc
      ·rw [List.mem_singleton.mp hx];exact uF
     ·have au:=(W.nb q u).mp (List.mem_of_getElem? hu)
      have uW:=clo q u (sub q hq) ((W.nb q u).mpr au) fun z=>uc (by cases z;rfl)
      simp [dep,bd',uc]
      rw [if_pos (fun (x:Int) (hx:x∈F2) (e:x=u)=>uF (e▸hx))]
      refine ae' ?_;rintro K3 hK3 -
      simp [isMut,R.mut]
      refine ⟨by omega,hK3 _ ?_⟩;clear hK3
      simp [isMut,R.mut]
      refine ⟨by omega,hnx _ ⟨F2++[u],Q2++[u],some (.val (.int u)),by simp,?_,?_,?_,by simp [hF],by simp [hq],?_,?_,?_⟩⟩
      ·rw [List.nodup_append]
       exact ⟨nd,by simp,fun x hx y hy e=>by rw [List.mem_singleton.mp hy] at e;exact uF (e▸hx)⟩
      ·intro v hv
       rcases List.mem_append.mp hv with hv | hv
       ·exact sub v hv
       ·rw [List.mem_singleton.mp hv];exact uW
      ·intro v hv
       rcases List.mem_append.mp hv with hv | hv
       ·exact List.mem_append_left _ (qf v hv)
       ·exact List.mem_append_right _ hv
      ·intro v hv vq vQ x hx xc
       rcases List.mem_append.mp hv with hv | hv
       ·exact List.mem_append_left _ (cl v hv vq (fun z=>vQ (List.mem_append_left _ z)) x hx xc)
       ·exact absurd (List.mem_append_right _ hv) vQ
      ·intro x hx xc
       rw [tk'] at hx
       rcases List.mem_append.mp hx with hx | hx
       ·exact List.mem_append_left _ (tk x hx xc)
       ·exact List.mem_append_right _ hx
      ·have l9:(F2++[u]).length<=n:=dj' (by
        rw [List.nodup_append]
        exact ⟨nd,by simp,fun x hx y hy e=>by rw [List.mem_singleton.mp hy] at e;exact uF (e▸hx)⟩) fun v hv=>oB' W h0 h1 (by
        rcases List.mem_append.mp hv with hv | hv
        ·exact sub v hv
        ·rw [List.mem_singleton.mp hv];exact uW)
       rw [List.length_append,List.length_singleton] at l9
       simp only [List.length_append,List.length_singleton]
       omega
   ·rintro Γ ⟨F2,Q2,x6,rfl,nd,sub,qf,hF,hq,cl,tk,me⟩
    rw [List.length_map,List.take_length] at tk
    refine nx _ ((hJ _ _).mpr ⟨F2,Q2,_,_,nd,sub,qf,hF,fun v hv vQ=>?_,me,by omega,rfl⟩)
    by_cases vq:v=q
    ·rw [vq];exact tk
    ·exact cl v hv vq vQ
 obtain ⟨r,rs',e,l,rfl,h2,h3⟩:=key
 exact ⟨l,by unfold coF;rw [e],h2,h3⟩
theorem sy' {l:List Int}{x:Int}:((l.map D.int).any fun d=>deq d (.int x))=decide (x∈l):=by
 by_cases h:x∈l
 ·rw [decide_eq_true h,List.any_eq_true]
  exact ⟨.int x,List.mem_map.mpr ⟨x,h,rfl⟩,by simp [deq]⟩
 ·rw [decide_eq_false h,List.any_eq_false]
  intro d hd z
  obtain ⟨y,hy,rfl⟩:=List.mem_map.mp hd
  rw [bd',decide_eq_true_eq] at z
  subst z
  exact h hy
theorem rg':dep (hsD hs)<=5:=by
 have:depA (hs.map holdD)<=4:=dh' fun d hd=>by
  obtain ⟨p,_,rfl⟩:=List.mem_map.mp hd
  have:=gs' (ws:=[p.2])
  simp only [List.map_cons,List.map_nil,dep,depA] at this
  simp only [holdD,dep,depA]
  omega
 unfold hsD
 rw [dep]
 omega
theorem ia' (W:Web n rs rk) (hw:∀ p∈hs,Wf f p.2) (h1:1<=f) (hf:f<=3) (hl:hs.length<=18){c h:Int} (a:Adj rs c h):cvF br' [webD n rs,hsD hs,howD sp,.int c,.int h]=some (.bl true):=by
 have e1:=sx' (sp:=sp) W hw h1 hf hl 20 c h a (i6' W a)
 obtain ⟨l,e2,ml,l8⟩:=ma' W a
 have e3:=rf' (sp:=sp) W hw h1 hf hl a
 have tw:=(kZ' (sp:=sp) (N:=nbs rs) hw 20 (some c) h).1
 have tlen:(tl sp (nbs rs) hs 20 (some c) h).length<=hs.length:=Nat.le_trans (l9' 20 (some c) h) (nL' (W.nodup W.nb W.nb_nodup _ _ _))
 obtain ⟨ws,hws⟩:∃ ws:WS,ws=(hs.filter fun p=>decide (p.1∈l)).map (·.2):=⟨_,rfl⟩
 have wl:ws.length<=hs.length:=by rw [hws,List.length_map];exact List.length_filter_le _ _
 have wwf:∀ w∈ws,Wf f w:=fun w m=>by
  rw [hws] at m
  obtain ⟨p,hp,rfl⟩:=List.mem_map.mp m
  exact hw p (List.mem_filter.mp hp).1
 have e4:sp=false->cvF bE' [.lst (ws.map wishD)]=some (.lst ((tl sp (nbs rs) hs 20 (some c) h).map wishD)):=fun z=>by
  subst z
  refine oA' wwf h1 hf (by omega) ((nN' W hw 20 (some c) h (fun x z=>by cases z;exact a) (i6' W a)).congr fun w=>?_)
  rw [hws]
  unfold bW
  rw [List.mem_flatMap,List.mem_map]
  constructor
  ·rintro ⟨p,hp,rfl⟩
   rw [List.mem_filter,decide_eq_true_eq,ml] at hp
   exact ⟨p.1,hp.2,List.mem_map.mpr ⟨p,List.mem_filter.mpr ⟨hp.1,by simp⟩,rfl⟩⟩
  ·rintro ⟨v,hv,m⟩
   obtain ⟨p,hp,rfl,rfl⟩:=gb' m
   exact ⟨p,List.mem_filter.mpr ⟨hp,by rw [decide_eq_true_eq,ml];exact hv⟩,rfl⟩
 have e5:cvF (a6' 8) [.lst ((tl sp (nbs rs) hs 20 (some c) h).map wishD),.lst ((tl sp (nbs rs) hs 20 (some c) h).map wishD)]=some (.bl true):=hP' (ko' tw hf (by omega))
 have d1:=gs' (ws:=tl sp (nbs rs) hs 20 (some c) h)
 have d2:=rg' (hs:=hs)
 generalize tl sp (nbs rs) hs 20 (some c) h=T at *
 refine bD' rfl fun KE k1 _=>?_
 rw [fP']
 refine ae' ?_;rintro K hK -
 simp [e1]
 refine hK _ ?_;clear hK
 refine ae' ?_;rintro K hK -
 simp [e2]
 refine hK _ ?_;clear hK
 refine ae' ?_;rintro K hK -
 simp
 refine dK' hs holdD (fun p=>decide (p.1∈l)) (fun p=>wishD p.2) ?_
 simp [hsD,holdD,dep]
 refine ⟨by omega,fun a b _=>by rw [← List.any_map];exact sy',hK _ ?_⟩;clear hK
 have e6:List.map (fun p:Int×List (Int×Int)=>wishD p.2) (List.filter (fun p=>decide (p.1∈l)) hs)=ws.map wishD:=by rw [hws,List.map_map];rfl
 rw [e6]
 change wp _ [some (.val (webD n rs)),some (.val (hsD hs)),some (.val (howD sp)),some (.val (.int c)),some (.val (.int h)),some (.val (.lst (T.map wishD))),some (.val (.lst (l.map D.int))),some (.val (.lst (ws.map wishD))),none,none] _
 refine ae' ?_;rintro K hK -
 have q:=hU' (sp:=sp)
 have rest:K .nx [some (.val (webD n rs)),some (.val (hsD hs)),some (.val (howD sp)),some (.val (.int c)),some (.val (.int h)),some (.val (.lst (T.map wishD))),some (.val (.lst (l.map D.int))),some (.val (.lst (ws.map wishD))),none,none]:=by
  refine hK _ ?_;clear hK
  refine ae' ?_;rintro K hK -
  simp [hsD]
  refine hK _ ?_;clear hK
  change wp _ [some (.val (webD n rs)),some (.val (hsD hs)),some (.val (howD sp)),some (.val (.int c)),some (.val (.int h)),some (.val (.lst (T.map wishD))),some (.val (.lst (l.map D.int))),some (.val (.lst (ws.map wishD))),some (.val (hsD hs)),none] _
  refine ae' ?_;rintro K hK -
  simp [e3]
  refine hK _ ?_;clear hK
  simp [e5,dI']
  exact ⟨by omega,k1 _ ⟨_,rfl⟩⟩
 have step:wp (ifS (andT (tst (op2 (eqF false) (nm 2) (ret (.str "roof")))) (tst (op2 (eqF true) (nm 5) (fn1 (cvF bE') (consA (nm 7) nilA))))) (retS (ret (.bl false))) (ret .nx)) [some (.val (webD n rs)),some (.val (hsD hs)),some (.val (howD sp)),some (.val (.int c)),some (.val (.int h)),some (.val (.lst (T.map wishD))),some (.val (.lst (l.map D.int))),some (.val (.lst (ws.map wishD))),none,none] K:=by
  cases sp with
  | true =>
   simp [q.2,dep]
   exact rest
  | false =>
   have d3:=d1
   rw [dep] at d3
   simp [q.2,dep,e4 rfl,dI']
   exact ⟨by omega,rest⟩
 exact step
end
theorem iC' {tgt:D->M Unit}{ts:M Bool}{el:M D}{it:M (List D)}{Γ:Gm}{QL:List D->Gm->Prop} (J:Nat->List D->Gm->Prop)
  (h:wp it Γ fun ds Γ1=>ds.length<=lim/\J 0 [] Γ1/\(∀ (i:Nat) d acc a Γ2,ds[i]?=some d->J i acc Γ2->wp (tgt d) (a::Γ2) fun _ Γ3=>wp ts Γ3 fun b Γ4=>b=true/\wp el Γ4 fun x Γ5=>∃ a' Γ6,Γ5=a'::Γ6/\J (i+1) (acc++[x]) Γ6)/\∀ acc Γ2,J ds.length acc Γ2->QL acc Γ2):wp (compO 1 it tgt ts el) Γ QL:=by
 unfold compO
 rw [aP']
 refine h.mono fun ds Γ1 ⟨hl,h0,hs,hq⟩=>?_
 rw [if_pos hl]
 have key:∀ (es:List D) (i:Nat) (acc:List D) (a:Option R) (Γ2:Gm),ds.drop i=es->i<=ds.length->J i acc Γ2->∃ r a' Γe,compM tgt ts el es (a::Γ2)=some (r,a'::Γe)/\J ds.length (acc++r) Γe:=by
  intro es
  induction es with
  | nil =>
   intro i acc a Γ2 hd hi hj
   have:i=ds.length:=by
    have:=List.drop_eq_nil_iff.mp hd
    omega
   subst this
   exact ⟨[],a,Γ2,rfl,by simpa using hj⟩
  | cons d es ih =>
   intro i acc a Γ2 hd hi hj
   have hlt:i < ds.length:=by
    rcases Nat.lt_or_ge i ds.length with z | z
    ·exact z
    ·rw [List.drop_eq_nil_of_le z] at hd;cases hd
   have e1:ds[i]?=some d:=by
    have:=List.drop_eq_getElem_cons hlt
    rw [hd] at this
    cases this
    exact List.getElem?_eq_getElem hlt
   have e2:ds.drop (i+1)=es:=by
    have:=List.drop_eq_getElem_cons hlt
    rw [hd] at this
    injection this with _ q
    exact q.symm
   obtain ⟨_,Γ3,g1,b,Γ4,g2,rfl,x,Γ5,g3,a',Γ6,rfl,hj'⟩:=hs i d acc a Γ2 e1 hj
   obtain ⟨r,a'',Γe,g4,hj''⟩:=ih (i+1) (acc++[x]) a' Γ6 e2 hlt hj'
   refine ⟨x::r,a'',Γe,?_,by simpa using hj''⟩
   rw [compM]
   unfold bnd
   rw [g1]
   dsimp only
   rw [g2]
   dsimp only
   rw [if_pos rfl]
   rw [g3]
   dsimp only
   rw [g4]
   rfl
 obtain ⟨r,a',Γe,e,hj⟩:=key ds 0 [] none Γ1 rfl (Nat.zero_le _) h0
 refine ⟨r,Γe,?_,hq r Γe (by simpa using hj)⟩
 have e':compM tgt ts el ds (List.replicate 1 none++Γ1)=some (r,a'::Γe):=e
 unfold inC
 rw [e']
 rfl
@[simp ↓] theorem u6' {i:Nat}{t:M (List D)}{Γ:Gm}{Q:D->Gm->Prop}:wp (popAt i t) Γ Q↔isMut Γ i=true/\wp t Γ fun as Γ0=>wp (look i) Γ0 fun l Γ1=>wp (lft (pkF as l)) Γ1 fun d Γ2=>wp (wr i (ersF as)) Γ2 fun _ Γ3=>Q d Γ3:=by
 simp only [popAt,c8',aP',du']
theorem uO' {xs:List Int}{x:Nat} (h:x < xs.length) (l:xs.length < 1000):pkF [.int x] (.lst (xs.map D.int))=some (.int xs[x]):=by
 unfold pkF
 dsimp only
 rw [if_pos ⟨by omega,by omega⟩,Int.toNat_natCast,List.getElem?_map,List.getElem?_eq_getElem h]
 rfl
theorem tS' {xs:List Int}{x:Nat}:ersF [.int x] (xs.map D.int)=some ((xs.eraseIdx x).map D.int):=by
 unfold ersF
 simp only [Int.toNat_natCast]
 congr 1
 induction xs generalizing x with
 | nil=>rfl
 | cons y xs ih=>cases x with
  | zero=>rfl
  | succ x=>simp only [List.map_cons,List.eraseIdx_cons_succ,List.map_cons];rw [ih]
theorem oC' {xs:List Int}{x:Nat} (h:x < xs.length):(xs[x]::xs.eraseIdx x).Perm xs:=by
 induction xs generalizing x with
 | nil=>cases h
 | cons y xs ih =>
  cases x with
  | zero=>exact List.Perm.refl _
  | succ x =>
   have:=ih (x:=x) (by simpa using h)
   simp only [List.getElem_cons_succ,List.eraseIdx_cons_succ]
   exact (List.Perm.swap y _ _).trans (this.cons y)
def rngZ (n:Nat):List Int:=(List.range n).map fun k:Nat=>(k:Int)
theorem tT' (n:Nat):rngD 0 n=(rngZ n).map D.int:=by
 unfold rngD rngZ
 rw [List.map_map]
 refine List.map_congr_left fun k _=>?_
 simp
theorem oD' (n:Nat):(rngZ n).Nodup:=d4' List.nodup_range fun x _ y _ e=>by omega
theorem tU' {a b:Int}:mkR a b=(min a b,max a b):=by
 unfold mkR
 refine Prod.ext ?_ ?_
 ·simp only;split<;>omega
 ·simp only;split<;>omega
theorem mb' {c:List D}{most:Int}{Q:R->List D->Prop} (hc:PotOk c) (m1:1<=most) (m7:most<=7) (k:∀ n rs rk c',Web n rs rk->PotOk c'->Q (.val (webD n rs)) c'):wpB eF' c [.int most] Q:=by
 refine e9' rfl fun KE hE _=>?_
 rw [g3']
 refine ae' ?_;rintro K hK -
 simp [isMut,R.mut]
 refine a2' hc (by omega) (by omega) fun m0 c2 hm1 hm2 hc=>?_
 obtain ⟨m,hm⟩:∃ m:Nat,1+m0=m:=⟨(1+m0).toNat,by omega⟩
 simp [hm]
 refine hK _ ?_;clear hK
 refine ae' ?_;rintro K hK -
 simp [isMut,R.mut]
 refine a2' hc (by omega) (by omega) fun way c3 hw1 hw2 hc=>?_
 simp
 refine hK _ ?_;clear hK
 refine ae' ?_;rintro K hK -
 simp
 refine ⟨by omega,hK _ ?_⟩;clear hK
 rw [tT']
 refine ae' ?_;rintro K hK -
 simp
 obtain ⟨J,hJ⟩:∃ J:Nat->List D->Gm->Prop,∀ i acc Γ,J i acc Γ↔∃ (c:List D) (os rest:List Int),PotOk c/\acc=os.map D.int/\os.length=i/\(os++rest).Perm (rngZ m)/\Γ=[some (.bor c),some (.val (.int most)),some (.val (.int m)),some (.val (.int way)),some (.own (rest.map D.int)),none,none,none,none,none]:=⟨_,fun _ _ _=>Iff.rfl⟩
 have zl:(rngZ m).length=m:=by simp [rngZ]
 refine iC' J ?_
 simp
 refine ⟨by omega,by omega,(hJ _ _ _).mpr ⟨c3,[],rngZ m,hc,rfl,rfl,by simp,rfl⟩,?_,?_⟩
 ·intro i d acc Γ2 hd j
  obtain ⟨c4,os,rest,hc,rfl,hi,pm,rfl⟩:=(hJ _ _ _).mp j
  have hi2:i < m:=by
   have:=(List.getElem?_eq_some_iff.mp hd).1
   simpa using this
  have ln:=pm.length_eq
  rw [List.length_append,zl] at ln
  simp [isMut,R.mut]
  refine a2' hc (by omega) (by omega) fun x c5 hx1 hx2 hc=>?_
  obtain ⟨x,rfl⟩:=Int.eq_ofNat_of_zero_le hx1
  have e1:=uO' (xs:=rest) (x:=x) (by omega) (by omega)
  have e2:=tS' (xs:=rest) (x:=x)
  simp [e1,e2]
  refine ⟨_,_,⟨rfl,rfl⟩,(hJ _ _ _).mpr ⟨c5,os++[rest[x]],rest.eraseIdx x,hc,by simp,by simp [hi],?_,rfl⟩⟩
  rw [List.append_assoc]
  exact ((oC' (xs:=rest) (x:=x) (by omega)).append_left os).trans pm
 ·intro acc Γ2 j
  obtain ⟨c4,os,rest,hc,rfl,hi,pm,rfl⟩:=(hJ _ _ _).mp j
  have ln:=pm.length_eq
  rw [List.length_append,zl] at ln
  have:rest=[]:=List.length_eq_zero_iff.mp (by omega)
  subst this
  rw [List.append_nil] at pm
  have nd:os.Nodup:=pm.symm.nodup (oD' m)
  have rg:∀ x∈os,0<=x/\x < m:=fun x hx=>by
   rw [pm.mem_iff] at hx
   obtain ⟨k,hk,rfl⟩:=List.mem_map.mp hx
   have:=List.mem_range.mp hk
   omega
  have hl:os.length=m:=by omega
  simp
  refine hK _ ?_;clear hK
  have atk:∀ j,j < m->atI (os.map D.int) ((j:Nat):Int)=some (.int (atO os j)):=fun j hj=>by
   rw [DL.iV',l7' (by omega)]
   simp [hl,hj]
  refine ae' ?_;rintro K hK -
  refine ⟨_,_,rfl,hK _ ?_⟩;clear hK
  show wp _ [some (.bor c4),some (.val (.int most)),some (.val (.int m)),some (.val (.int way)),some (.own []),some (.val (.lst (os.map D.int))),some (.own []),none,none,none] _
  refine ae' ?_;rintro K hK -
  simp
  refine ⟨by omega,?_⟩
  refine aT' (J:=fun i Γ=>∃ (c:List D) (L:List (Nat×Nat)) (x7 x8 x9:Option R),PotOk c/\LOk (i+1) L/\L.length<=i/\Γ=[some (.bor c),some (.val (.int most)),some (.val (.int m)),some (.val (.int way)),some (.own []),some (.val (.lst (os.map D.int))),some (.own ((roadsO os L).map pairD)),x7,x8,x9]) ⟨c4,[],none,none,none,hc,⟨List.Pairwise.nil,by simp⟩,Nat.le_refl _,rfl⟩ ?_ ?_
  ·rintro i d Γ hd ⟨c,L,x7,x8,x9,hc,ok,ll,rfl⟩ KL hnx - - -
   obtain ⟨rfl,hi⟩:=gr' hd
   have up:LOk (i+1+1) L:=⟨ok.inc,fun q hq=>by have:=ok.ok q hq;omega⟩
   obtain ⟨kk,hkk⟩:∃ kk:Nat,(1:Int)+i=kk:=⟨1+i,by omega⟩
   rw [hkk]
   have ln:(roadsO os L).length=L.length:=by simp [roadsO]
   simp
   refine ae' ?_;rintro K2 hK2 -
   simp [isMut,R.mut]
   refine a2' hc (by omega) (by omega) fun j1 c5 hj1 hj1' hc=>?_
   simp
   refine a2' hc (by omega) (by omega) fun j2 c6 hj2 hj2' hc=>?_
   have ix:∃ j:Nat,j < kk/\atI [D.int ((kk:Int) - 1),D.int 0,D.int j1,D.int j2] way=some (.int j):=by
    have:way=0\/way=1\/way=2\/way=3:=by omega
    rcases this with rfl | rfl | rfl | rfl
    ·exact ⟨kk - 1,by omega,by rw [show ((kk - 1:Nat):Int)=(kk:Int) - 1 by omega];rfl⟩
    ·exact ⟨0,by omega,rfl⟩
    ·obtain ⟨j1,rfl⟩:=Int.eq_ofNat_of_zero_le hj1
     exact ⟨j1,by omega,rfl⟩
    ·obtain ⟨j2,rfl⟩:=Int.eq_ofNat_of_zero_le hj2
     exact ⟨j2,by omega,rfl⟩
   obtain ⟨j,hj,ix⟩:=ix
   simp [ix]
   refine hK2 _ ?_;clear hK2
   refine ae' ?_;rintro K2 hK2 -
   have a1:=atk kk (by omega)
   have a2:=atk j (by omega)
   simp [a1,a2]
   refine hK2 _ ?_;clear hK2
   have put:∀ c7,PotOk c7->wp (appS 6 (nm 9)) [some (.bor c7),some (.val (.int most)),some (.val (.int m)),some (.val (.int way)),some (.own []),some (.val (.lst (os.map D.int))),some (.own ((roadsO os L).map pairD)),some (.val (.int kk)),some (.val (.int j)),some (.val (.tup [.int (min (atO os kk) (atO os j)),.int (max (atO os kk) (atO os j))]))] KL:=fun c7 hc=>by
    simp [isMut,R.mut]
    refine ⟨by omega,hnx _ ⟨c7,L++[(kk,j)],some (.val (.int kk)),some (.val (.int j)),some (.val (.tup [.int (min (atO os kk) (atO os j)),.int (max (atO os kk) (atO os j))])),hc,⟨?_,?_⟩,by simp;omega,?_⟩⟩
    ·rw [List.pairwise_append]
     refine ⟨ok.inc,by simp,fun p hp q hq=>?_⟩
     rw [List.mem_singleton.mp hq]
     have:=ok.ok p hp
     simp only
     omega
    ·intro q hq
     rcases List.mem_append.mp hq with hq | hq
     ·exact up.ok q hq
     ·rw [List.mem_singleton.mp hq]
      simp only
      omega
    ·simp [roadsO,tU',pairD]
   by_cases w3:way < 3
   ·simp [w3,isMut,R.mut]
    simpa [isMut,R.mut] using put _ hc
   ·simp [w3,isMut,R.mut]
    refine a2' hc (by omega) (by omega) fun z c7 hz1 hz2 hc=>?_
    simp
    split
    ·simpa [isMut,R.mut] using put _ hc
    ·exact hnx _ ⟨c7,L,_,_,_,hc,up,by omega,rfl⟩
  ·rintro Γ ⟨c,L,x7,x8,x9,hc,ok,ll,rfl⟩
   refine hK _ ?_;clear hK
   rw [iA'] at ok ll
   have mm:m - 1+1=m:=by omega
   rw [mm] at ok
   obtain ⟨rs,e1,hp,hs⟩:=oz' (ps:=roadsO os L) (by simp [roadsO];omega)
   simp [e1]
   exact hE _ _ _ ⟨_,rfl⟩ (k m rs _ c (tP' hl nd rg ok (by omega) (by omega) hp) hc)
theorem rh' {c:List D}{n:Nat}{rs:List (Int×Int)}{f:Nat}{Q:R->List D->Prop} (n1:1<=n) (n8:n<=8) (hc:PotOk c) (h0:1<=f) (hf:f<=3) (k:∀ (hs:HS) c',(∀ p∈hs,Wf f p.2)->hs.length<=8->PotOk c'->Q (.own (hs.map holdD)) c'):wpB eu' c [webD n rs,.int f,.int 8] Q:=by
 refine e9' rfl fun KE hE _=>?_
 rw [fN']
 refine ae' ?_;rintro K hK -
 simp [isMut,R.mut]
 refine pS' hc h0 hf (by omega) (by omega) fun ws c hws hwl hc=>?_
 simp
 refine hK _ ?_;clear hK
 simp
 obtain ⟨J,hJ⟩:∃ J:Nat->List D->Gm->Prop,∀ i acc Γ,J i acc Γ↔∃ (c:List D) (hs:HS),PotOk c/\acc=hs.map holdD/\hs.map (·.2)=ws.take i/\Γ=[some (.bor c),some (.val (webD n rs)),some (.val (.int f)),some (.val (.int 8)),some (.val (.lst (ws.map wishD)))]:=⟨_,fun _ _ _=>Iff.rfl⟩
 refine iC' J ?_
 simp
 refine ⟨by omega,(hJ _ _ _).mpr ⟨c,[],hc,rfl,rfl,rfl⟩,?_,?_⟩
 ·intro i d acc Γ2 w hw e j
  subst e
  obtain ⟨c4,hs,hc,rfl,hi,rfl⟩:=(hJ _ _ _).mp j
  simp [isMut,R.mut]
  refine a2' hc (by omega) (by omega) fun x c5 hx1 hx2 hc=>?_
  simp
  refine ⟨_,_,⟨rfl,rfl⟩,(hJ _ _ _).mpr ⟨c5,hs++[(x,w)],hc,by simp [holdD],?_,rfl⟩⟩
  rw [List.map_append,hi,List.take_succ,hw]
  rfl
 ·intro acc Γ2 j
  obtain ⟨c4,hs,hc,rfl,hi,rfl⟩:=(hJ _ _ _).mp j
  rw [List.take_length] at hi
  have ln:hs.length=ws.length:=by rw [← hi,List.length_map]
  refine hE _ _ _ ⟨_,rfl⟩ (k hs c4 (fun p hp=>hws _ (by rw [← hi];exact List.mem_map.mpr ⟨p,hp,rfl⟩)) (by omega) hc)
theorem nO' {n:Nat}{rs:List (Int×Int)}{rk:Int->Nat}{f:Nat}{hs:HS}{sp:Bool} (W:Web n rs rk) (hw:∀ p∈hs,Wf f p.2) (h1:1<=f) (hf:f<=3) (hl:hs.length<=18){a b:Int} (m:(a,b)∈rs):cvF br' [webD n rs,hsD hs,howD sp,.int a,.int b]=some (.bl true)/\cvF br' [webD n rs,hsD hs,howD sp,.int b,.int a]=some (.bl true) :=
 ⟨ia' W hw h1 hf hl (.inl m),ia' W hw h1 hf hl (.inr m)⟩
theorem nP' {i:Nat}{d:D} (h:[D.str "roof", D.str "spare"][i]?=some d):∃ sp,d=howD sp:=by
 match i,h with
 | 0,h=>cases h;exact ⟨false,rfl⟩
 | 1,h=>cases h;exact ⟨true,rfl⟩
 | i+2,h=>simp at h
def tenW (k:Int):List (Int×Int):=[(k,k),(9 - k,9)]
theorem tV' {k:Int} (h0:0<=k) (h9:k<=9):Wf 2 (tenW k):=by
 refine ⟨rfl,fun p hp=>?_⟩
 simp [tenW] at hp
 rcases hp with rfl | rfl
 ·exact ⟨h0,by simp,h9⟩
 ·exact ⟨by simp only;omega,by simp only;omega,by simp⟩
theorem law_true (ns:List Int) (hns:ns.length<=63):∃ rs,gq' [.val (.lst (ns.map D.int))]=some (.val (.bl true),rs):=by
 have key:wpF gq' [.val (.lst (ns.map D.int))] fun r _=>r=.val (.bl true):=by
  refine dN' rfl fun KE hE _=>?_
  rw [oe']
  refine ae' ?_;rintro K hK -
  obtain ⟨c,hc,hp⟩:=tL' ns
  simp [hc]
  refine hK _ ?_;clear hK
  refine ae' ?_;rintro K hK hR
  simp
  refine aT' (J:=fun i Γ=>∃ c x2 x3 x4 x5 x6 x7 x8 x9 x10,PotOk c/\Γ=[some (.val (.lst (ns.map .int))),some (.own c),x2,x3,x4,x5,x6,x7,x8,x9,x10]) ⟨c,_,_,_,_,_,_,_,_,_,hp,rfl⟩ ?_ ?_
  ·rintro i d Γ - ⟨c,x2,x3,x4,x5,x6,x7,x8,x9,x10,hc,rfl⟩ KL hnx - - -
   clear hK hR hE hp
   refine ⟨_,_,rfl,?_⟩
   show wp _ [some (.val (.lst (ns.map .int))),some (.own c),some (.val d),x3,x4,x5,x6,x7,x8,x9,x10] _
   refine ae' ?_;rintro K hK -
   simp [isMut,R.mut]
   refine mb' hc (by omega) (by omega) fun n rs rk c W hc=>?_
   simp
   refine hK _ ?_;clear hK
   refine ae' ?_;rintro K hK -
   simp [isMut,R.mut]
   refine a2' hc (by omega) (by omega) fun f0 c hf1 hf2 hc=>?_
   obtain ⟨f,hf⟩:∃ f:Nat,1+f0=f:=⟨(1+f0).toNat,by omega⟩
   simp [hf]
   refine rh' W.n1 W.n8 hc (by omega) (by omega) fun hs c hw hl hc=>?_
   simp
   refine hK _ ?_;clear hK
   simp
   refine aT' (J:=fun i Γ=>∃ x5 x6 x7 x8 x9 x10,Γ=[some (.val (.lst (ns.map .int))),some (.own c),some (.val d),some (.val (webD n rs)),some (.val (hsD hs)),x5,x6,x7,x8,x9,x10]) ⟨_,_,_,_,_,_,rfl⟩ ?_ ?_
   ·rintro i d2 Γ hd ⟨x5,x6,x7,x8,x9,x10,rfl⟩ KL2 hnx2 - - -
    obtain ⟨sp,rfl⟩:=nP' hd
    obtain ⟨ws,hws⟩:∃ ws:WS,ws=hs.map (·.2):=⟨_,rfl⟩
    have wwf:∀ w∈ws,Wf f w:=fun w m=>by
     rw [hws] at m
     obtain ⟨p,hp,rfl⟩:=List.mem_map.mp m
     exact hw p hp
    have wl:ws.length<=8:=by rw [hws,List.length_map];exact hl
    have e1:=l8' (sp:=sp) wwf (by omega) (by omega) (by omega)
    have e2:cvF bG' [howD sp,.lst (ws.map wishD)]=some (.lst ((shortL sp ws).map wishD)):=h8' (sp:=sp) wwf (by omega) (by omega) (by omega) (bz' ws) (fC' ws)
    have sl:(shortL sp ws).length<=8:=Nat.le_trans kq' wl
    have e3:lendF (a6' 8) [.lst ((shortL sp ws).map wishD),.lst ((shortL sp ws).map wishD)]=some (.bl true):=sk' (hP' (ko' (fun w m=>wwf w (kp' m)) (by omega) (by omega))) rfl
    have d1:=gs' (ws:=ws)
    generalize shortL sp ws=T at *
    refine ⟨_,_,rfl,?_⟩
    show wp _ [some (.val (.lst (ns.map .int))),some (.own c),some (.val d),some (.val (webD n rs)),some (.val (hsD hs)),some (.val (howD sp)),x6,x7,x8,x9,x10] _
    refine ae' ?_;rintro K hK -
    simp
    refine dK' hs holdD (fun _=>true) (fun p=>wishD p.2) ?_
    simp [hsD,holdD]
    refine ⟨by omega,hK _ ?_⟩;clear hK
    have e6:List.map (fun p:Int×List (Int×Int)=>wishD p.2) hs=ws.map wishD:=by rw [hws,List.map_map];rfl
    rw [e6]
    change wp _ [some (.val (.lst (ns.map .int))),some (.own c),some (.val d),some (.val (webD n rs)),some (.val (hsD hs)),some (.val (howD sp)),some (.val (.lst (ws.map wishD))),x7,x8,x9,x10] _
    refine ae' ?_;rintro K hK -
    simp
    refine hK _ ?_;clear hK
    refine ae' ?_;rintro K hK -
    simp [e1]
    refine hK _ ?_;clear hK
    refine ae' ?_;rintro K hK -
    simp [isMut,R.mut,e2,e3,dI']
    refine ⟨by omega,hK _ ?_⟩;clear hK
    refine ae' ?_;rintro K hK -
    simp [isMut,R.mut]
    refine ⟨by omega,hK _ ?_⟩;clear hK
    refine ae' ?_;rintro K hK -
    simp [dI']
    refine ⟨by omega,hK _ ?_⟩;clear hK
    simp
    refine aT' (J:=fun i Γ=>∃ x8 x9 x10,Γ=[some (.val (.lst (ns.map .int))),some (.own c),some (.val d),some (.val (webD n rs)),some (.val (hsD hs)),some (.val (howD sp)),some (.val (.lst (ws.map wishD))),some (.val (.lst (ws.map wishD))),x8,x9,x10]) ⟨_,_,_,rfl⟩ ?_ ?_
    ·rintro i d3 Γ hd3 ⟨x8,x9,x10,rfl⟩ KL3 hnx3 - - -
     rw [List.getElem?_map,Option.map_eq_some_iff] at hd3
     obtain ⟨⟨a,b⟩,hr,rfl⟩:=hd3
     have B:=nO' (sp:=sp) W hw (by omega) (by omega) (by omega) (List.mem_of_getElem? hr)
     refine ⟨_,_,rfl,?_⟩
     show wp _ [some (.val (.lst (ns.map .int))),some (.own c),some (.val d),some (.val (webD n rs)),some (.val (hsD hs)),some (.val (howD sp)),some (.val (.lst (ws.map wishD))),some (.val (.lst (ws.map wishD))),x8,some (.val (.int a)),some (.val (.int b))] _
     simp [B.1,B.2]
     exact hnx3 _ ⟨_,_,_,rfl⟩
    ·rintro Γ ⟨x8,x9,x10,rfl⟩
     exact hnx2 _ ⟨_,_,_,_,_,_,rfl⟩
   ·rintro Γ ⟨x5,x6,x7,x8,x9,x10,rfl⟩
    exact hnx _ ⟨_,_,_,_,_,_,_,_,_,_,hc,rfl⟩
  ·rintro Γ ⟨c,x2,x3,x4,x5,x6,x7,x8,x9,x10,hc,rfl⟩
   refine hK _ ?_;clear hK hR
   refine ae' ?_;rintro K hK -
   simp [isMut,R.mut]
   refine mb' hc (by omega) (by omega) fun n rs rk c W hc=>?_
   simp
   refine hK _ ?_;clear hK
   have n1:=W.n1
   have n8:=W.n8
   refine ae' ?_;rintro K hK -
   simp
   obtain ⟨J,hJ⟩:∃ J:Nat->List D->Gm->Prop,∀ i acc Γ,J i acc Γ↔∃ (c:List D) (hs:HS),PotOk c/\acc=hs.map holdD/\hs.length=i/\(∀ p∈hs,Wf 2 p.2)/\Γ=[some (.val (.lst (ns.map .int))),some (.own c),x2,some (.val (webD n rs)),x4,x5,x6,x7,x8,x9,x10]:=⟨_,fun _ _ _=>Iff.rfl⟩
   refine iC' J ?_
   simp
   refine ⟨(hJ _ _ _).mpr ⟨c,[],hc,rfl,rfl,by simp,rfl⟩,?_,?_⟩
   ·intro i d acc Γ2 hd j
    obtain ⟨c4,hs,hc,rfl,hi,hw,rfl⟩:=(hJ _ _ _).mp j
    obtain ⟨rfl,hi2⟩:=gr' hd
    obtain ⟨kk,hkk⟩:∃ kk:Int,0+(i:Int)=kk:=⟨_,rfl⟩
    rw [hkk]
    simp [isMut,R.mut]
    refine a2' hc (by omega) (by omega) fun x c5 hx1 hx2 hc=>?_
    simp
    refine ⟨_,_,⟨rfl,rfl⟩,(hJ _ _ _).mpr ⟨c5,hs++[(x,tenW kk)],hc,by simp [holdD,wishD,tenW,pairD],by simp [hi],fun p hp=>?_,rfl⟩⟩
    rcases List.mem_append.mp hp with hp | hp
    ·exact hw p hp
    ·rw [List.mem_singleton.mp hp];exact tV' (by omega) (by omega)
   ·intro acc Γ2 j
    obtain ⟨c4,hs,hc,rfl,hi,hw,rfl⟩:=(hJ _ _ _).mp j
    simp
    refine hK _ ?_;clear hK
    change wp _ [some (.val (.lst (ns.map .int))),some (.own c4),x2,some (.val (webD n rs)),some (.val (hsD hs)),x5,x6,x7,x8,x9,x10] _
    refine ae' ?_;rintro K hK hR
    simp
    refine aT' (J:=fun i Γ=>∃ x5 x9 x10,Γ=[some (.val (.lst (ns.map .int))),some (.own c4),x2,some (.val (webD n rs)),some (.val (hsD hs)),x5,x6,x7,x8,x9,x10]) ⟨_,_,_,rfl⟩ ?_ ?_
    ·rintro i d3 Γ hd3 ⟨x5,x9,x10,rfl⟩ KL3 hnx3 - - -
     rw [List.getElem?_map,Option.map_eq_some_iff] at hd3
     obtain ⟨⟨a,b⟩,hr,rfl⟩:=hd3
     refine ⟨_,_,rfl,?_⟩
     show wp _ [some (.val (.lst (ns.map .int))),some (.own c4),x2,some (.val (webD n rs)),some (.val (hsD hs)),x5,x6,x7,x8,some (.val (.int a)),some (.val (.int b))] _
     simp
     refine aT' (J:=fun i Γ=>∃ x5,Γ=[some (.val (.lst (ns.map .int))),some (.own c4),x2,some (.val (webD n rs)),some (.val (hsD hs)),x5,x6,x7,x8,some (.val (.int a)),some (.val (.int b))]) ⟨_,rfl⟩ ?_ ?_
     ·rintro i d2 Γ hd2 ⟨x5,rfl⟩ KL4 hnx4 - - -
      obtain ⟨sp,rfl⟩:=nP' hd2
      have B:=nO' (sp:=sp) W hw (by omega) (by omega) (by omega) (List.mem_of_getElem? hr)
      refine ⟨_,_,rfl,?_⟩
      show wp _ [some (.val (.lst (ns.map .int))),some (.own c4),x2,some (.val (webD n rs)),some (.val (hsD hs)),some (.val (howD sp)),x6,x7,x8,some (.val (.int a)),some (.val (.int b))] _
      simp [B.1,B.2]
      exact hnx4 _ ⟨_,rfl⟩
     ·rintro Γ ⟨x5,rfl⟩
      exact hnx3 _ ⟨_,_,_,rfl⟩
    ·rintro Γ ⟨x5,x9,x10,rfl⟩
     refine hK _ ?_
     exact ⟨_,_,rfl,hE _ _ ⟨_,rfl,rfl⟩⟩
 obtain ⟨r,rs',e,rfl⟩:=key
 exact ⟨rs',e⟩
end Own
def PySem.W.Fast.tw12800236958633094648:Unit:=()
def PySem.W.Fast.tw6407929459094008680:Unit:=()
def PySem.W.Fast.tw7819133010132984858:Unit:=()
def PySem.W.Fast.tw15374540455268351235:Unit:=()
def PySem.W.Fast.tw1277537628699703485:Unit:=()
def PySem.W.Fast.tw16152537115406555795:Unit:=()
def PySem.W.Fast.tw16827842302607754906:Unit:=()
def PySem.W.Fast.tw15530169100199903175:Unit:=()
def PySem.W.Fast.tw11479840702530886264:Unit:=()
def PySem.W.Fast.tw7009491014523375065:Unit:=()
def PySem.W.Fast.tw17248662437565456288:Unit:=()
def PySem.W.Fast.tw16121493024224709483:Unit:=()
def PySem.W.Fast.tw7192706308344722174:Unit:=()
def PySem.W.Fast.tw13371455500762976173:Unit:=()
def PySem.W.Fast.tw15643014905870683213:Unit:=()
def PySem.W.Fast.tw333554442261132176:Unit:=()
def PySem.W.Fast.tw3055730712053267861:Unit:=()
def PySem.W.Fast.tw2679179760525066435:Unit:=()
def PySem.W.Fast.tw18060412201656134111:Unit:=()
def PySem.W.Fast.tw17620325122768217451:Unit:=()
def PySem.W.Fast.tw14548161083746207138:Unit:=()
def PySem.W.Fast.tw16535608542155349039:Unit:=()
def PySem.W.Fast.tw1608396447370294366:Unit:=()
def PySem.W.Fast.tw5545017744112095186:Unit:=()
def PySem.W.Fast.tw8387149686924510048:Unit:=()
def PySem.W.Fast.tw16133326733097589324:Unit:=()
def PySem.W.Fast.tw17498822026987038859:Unit:=()
def PySem.W.Fast.tw11124334678918480858:Unit:=()
def PySem.W.Fast.tw15271102493490617088:Unit:=()
def PySem.W.Fast.tw17281891757537670946:Unit:=()
def PySem.W.Fast.tw9289428806746073308:Unit:=()
def PySem.W.Fast.tw5349070491689966581:Unit:=()
def PySem.W.Fast.tw151300842452876378:Unit:=()
def PySem.W.Fast.tw5377574230685494522:Unit:=()
def PySem.W.Fast.tw6083840684445849722:Unit:=()
def PySem.W.Fast.tw4962999552128155442:Unit:=()
def PySem.W.Fast.tw10192516012750901852:Unit:=()
def PySem.W.Fast.tw208912136992477767:Unit:=()
def PySem.W.Fast.tw14941983876141304532:Unit:=()
def PySem.W.Fast.tw10508068328898952812:Unit:=()
def PySem.W.Fast.tw12758186926444980002:Unit:=()
def PySem.W.Fast.tw16091955935265696765:Unit:=()
def PySem.W.Fast.tw17822207998833078453:Unit:=()
def PySem.W.Fast.tw934884802088635961:Unit:=()
def PySem.W.Fast.tw15275728271119581797:Unit:=()
def PySem.W.Fast.tw893779713747951411:Unit:=()
def PySem.W.Fast.tw11797223303521103510:Unit:=()
def PySem.W.Fast.tw14047652185011390922:Unit:=()
def PySem.W.Fast.tw10909706706798401728:Unit:=()
def PySem.W.Fast.tw17662565013634805457:Unit:=()
def PySem.W.Fast.tw16422453730703509173:Unit:=()
def PySem.W.Fast.tw16839996570582935220:Unit:=()
def PySem.W.Fast.tw4500875657899345206:Unit:=()
def PySem.W.Fast.tw10306378009862281268:Unit:=()
def PySem.W.Fast.tw15577582420148406986:Unit:=()
def PySem.W.Fast.tw5377273757108296508:Unit:=()
def PySem.W.Fast.tw3601420653691113917:Unit:=()
def PySem.W.Fast.tw10192614440091954481:Unit:=()
def PySem.W.Fast.tw2122593674543198123:Unit:=()
def PySem.W.Fast.tw17355565947836559075:Unit:=()
def PySem.W.Fast.tw13104236234157122301:Unit:=()
def PySem.W.Fast.tw1891049916868811392:Unit:=()
def PySem.W.Fast.tw17184294575695449693:Unit:=()
def PySem.W.Fast.tw11127888232050427216:Unit:=()
def PySem.W.Fast.tw13561977921760088188:Unit:=()
def PySem.W.Fast.tw8129158437359297242:Unit:=()
def PySem.W.Fast.tw10340223418288953857:Unit:=()
def PySem.W.Fast.tw833639725045236345:Unit:=()
def PySem.W.Fast.tw1294339498629908310:Unit:=()
def PySem.W.Fast.tw17262643609149084664:Unit:=()
def PySem.W.Fast.tw12410088897077157700:Unit:=()
def PySem.W.Fast.tw8315964022115557737:Unit:=()
def PySem.W.Fast.tw13328636065162378271:Unit:=()
def PySem.W.Fast.tw18076183880782105245:Unit:=()
def PySem.W.Fast.tw3882253927574678388:Unit:=()
def PySem.W.Fast.tw13826463329224713471:Unit:=()
def PySem.W.Fast.tw14952437081851357771:Unit:=()
def PySem.W.Fast.tw16208934611874113329:Unit:=()
def PySem.W.Fast.tw14962451986508848289:Unit:=()
def PySem.W.Fast.tw10267686939634065433:Unit:=()
def PySem.W.Fast.tw3463427557612849038:Unit:=()
def PySem.W.Fast.tw13083190159190840732:Unit:=()
def PySem.W.Fast.tw7302257553110436888:Unit:=()
def PySem.W.Fast.tw3962991305071085964:Unit:=()
def PySem.W.Fast.tw6191926084730375865:Unit:=()
def PySem.W.Fast.tw9840321141765602890:Unit:=()
def PySem.W.Fast.tw17054019361568731247:Unit:=()
def PySem.W.Fast.tw15550701863233828251:Unit:=()
def PySem.W.Fast.tw6386234181176957339:Unit:=()
def PySem.W.Fast.tw13840829666029100218:Unit:=()
def PySem.W.Fast.tw14478980441858710927:Unit:=()
def PySem.W.Fast.tw2234671746758201343:Unit:=()
def PySem.W.Fast.tw9496291757361154284:Unit:=()
def PySem.W.Fast.tw7076464962252315343:Unit:=()
def PySem.W.Fast.tw5937187242379600582:Unit:=()
def PySem.W.Fast.tw11020161264999225597:Unit:=()
def PySem.W.Fast.tw11340108912781996486:Unit:=()
def PySem.W.Fast.tw6385801318688065034:Unit:=()
def PySem.W.Fast.tw17503441685677417168:Unit:=()
def PySem.W.Fast.tw14327916453474436073:Unit:=()
def PySem.W.Fast.tw1890849656027548329:Unit:=()
def PySem.W.Fast.tw13535423918921768708:Unit:=()
def PySem.W.Fast.tw4145793770197019175:Unit:=()
def PySem.W.Fast.tw4809566583454346612:Unit:=()
def PySem.W.Fast.tw9209773432402185207:Unit:=()
def PySem.W.Fast.tw3875027488725492469:Unit:=()
def PySem.W.Fast.tw5839729530585365540:Unit:=()
def PySem.W.Fast.tw2209754952017407312:Unit:=()
def PySem.W.Fast.tw6631529319237362698:Unit:=()
def PySem.W.Fast.tw7689804609597621609:Unit:=()
def PySem.W.Fast.tw14247328007549932226:Unit:=()
def PySem.W.Fast.tw6975475815587302677:Unit:=()
def PySem.W.Fast.tw2753876809610331701:Unit:=()
def PySem.W.Fast.tw11307186528629236199:Unit:=()
def PySem.W.Fast.tw14510179714768447684:Unit:=()
def PySem.W.Fast.tw9744194705227178682:Unit:=()
def PySem.W.Fast.tw5012945545627585238:Unit:=()
def PySem.W.Fast.tw6435744692985233334:Unit:=()
def PySem.W.Fast.tw4037334704843499509:Unit:=()
def PySem.W.Fast.tw17166566253863255044:Unit:=()
def PySem.W.Fast.tw13990214087924095070:Unit:=()
def PySem.W.Fast.tw10338553823262653623:Unit:=()
def PySem.W.Fast.tw14240611387472435081:Unit:=()
def PySem.W.Fast.tw7397281273507876715:Unit:=()
def PySem.W.Fast.tw15566037892198476340:Unit:=()
def PySem.W.Fast.tw8776334543224002716:Unit:=()
def PySem.W.Fast.tw3516105158359622261:Unit:=()
def PySem.W.Fast.tw15126070272208194347:Unit:=()
def PySem.W.Fast.tw17963609486357309539:Unit:=()
def PySem.W.Fast.tw945776390105602640:Unit:=()
def PySem.W.Fast.tw8208757729489166580:Unit:=()
def PySem.W.Fast.tw9943844741648710745:Unit:=()
def PySem.W.Fast.tw3790398129826201584:Unit:=()
def PySem.W.Fast.tw13340610881885747641:Unit:=()
def PySem.W.Fast.tw3682932719865429411:Unit:=()
def PySem.W.Fast.tw2228499516570180520:Unit:=()
def PySem.W.Fast.tw3428146152572028050:Unit:=()
def PySem.W.Fast.tw14571866302193229524:Unit:=()
def PySem.W.Fast.tw5002572126898488822:Unit:=()
def PySem.W.Fast.tw7475110203566251962:Unit:=()
def PySem.W.Fast.tw13555115985498973907:Unit:=()
def PySem.W.Fast.tw18268869176702322021:Unit:=()
def PySem.W.Fast.tw18001452419623349962:Unit:=()
def PySem.W.Fast.tw11679213961279308973:Unit:=()
def PySem.W.Fast.tw2732076647918167629:Unit:=()
def PySem.W.Fast.tw15706255426817418638:Unit:=()
def PySem.W.Fast.tw5243010923474933134:Unit:=()
def PySem.W.Fast.tw16141456625057810726:Unit:=()
def PySem.W.Fast.tw6866415882816346260:Unit:=()
def PySem.W.Fast.tw7650977601666946913:Unit:=()
def PySem.W.Fast.tw15054229589622363006:Unit:=()
def PySem.W.Fast.tw9507830239525808182:Unit:=()
def PySem.W.Fast.tw17796985474758609848:Unit:=()
def PySem.W.Fast.tw16419958279096984326:Unit:=()
def PySem.W.Fast.tw11501563793024554918:Unit:=()
def PySem.W.Fast.tw2895243304004341344:Unit:=()
def PySem.W.Fast.tw3627926206605150264:Unit:=()
def PySem.W.Fast.tw2292669651774795702:Unit:=()
def PySem.W.Fast.tw6413820228878412116:Unit:=()
def PySem.W.Fast.tw2795745403777827189:Unit:=()
def PySem.W.Fast.tw3080975546888646572:Unit:=()
def PySem.W.Fast.tw4257533070688917494:Unit:=()
def PySem.W.Fast.tw608688079759972453:Unit:=()
def PySem.W.Fast.tw17266597696160676416:Unit:=()
def PySem.W.Fast.tw4277787695119351106:Unit:=()
def PySem.W.Fast.tw8299109325524134714:Unit:=()
def PySem.W.Fast.tw17190350563164808527:Unit:=()
def PySem.W.Fast.tw411770539183413649:Unit:=()
def PySem.W.Fast.tw9039975870965981419:Unit:=()
def PySem.W.Fast.tw11817258802604179731:Unit:=()
open PySem PySem.W PyProof.Rows
set_option maxRecDepth 100000 in
set_option maxHeartbeats 0 in
theorem PySem.Challenge.cw_roofpost_k28_tables_when_all_is_still_holds : PySem.Challenge.rw_roofpost_k28_tables_when_all_is_still.Holds := by
 w_on;(refine holds_law (by decide +kernel) fun said=>?_);k_head;(case hw=>w_witness2)
 k_fill
 refine Own.walk (l:=PySem.Challenge.rw_roofpost_k28_tables_when_all_is_still) Own.law_true rfl rfl (fun w h Y=>PySem.W.kIn_of Y) ?F
 case F =>
  intro w mg fa h KX G hmg
  refine' Own.all_mk KX G hmg ?a0 ?l0 ?c0 ?k0 ?a1 ?l1 ?c1 ?k1 ?a2 ?l2 ?c2 ?k2 ?a3 ?l3 ?c3 ?k3 ?a4 ?l4 ?c4 ?k4 ?a5 ?l5 ?c5 ?k5 ?a6 ?l6 ?c6 ?k6 ?a7 ?l7 ?c7 ?k7 ?a8 ?l8 ?c8 ?k8 ?a9 ?l9 ?c9 ?k9 ?a10 ?l10 ?c10 ?k10 ?a11 ?l11 ?c11 ?k11 ?a12 ?l12 ?c12 ?k12 ?a13 ?l13 ?c13 ?k13 ?a14 ?l14 ?c14 ?k14 ?a15 ?l15 ?c15 ?k15 ?a16 ?l16 ?c16 ?k16 ?a17 ?l17 ?c17 ?k17 ?a18 ?l18 ?c18 ?k18 ?a19 ?l19 ?c19 ?k19 ?a20 ?l20 ?c20 ?k20 ?a21 ?l21 ?c21 ?k21 ?a22 ?l22 ?c22 ?k22 ?a23 ?l23 ?c23 ?k23 ?a24 ?l24 ?c24 ?k24 ?a25 ?l25 ?c25 ?k25 ?a26 ?l26 ?c26 ?k26 ?a27 ?l27 ?c27 ?k27 ?a28 ?l28 ?c28 ?k28 ?a29 ?l29 ?c29 ?k29 ?a30 ?l30 ?c30 ?k30 ?a31 ?l31 ?c31 ?k31 ?a32 ?l32 ?c32 ?k32 ?a33 ?l33 ?c33 ?k33 ?a34 ?l34 ?c34 ?k34 ?a35 ?l35 ?c35 ?k35 ?a36 ?l36 ?c36 ?k36 ?y_all ?y_any ?y_bool ?y_enumerate ?y_int ?y_isinstance ?y_len ?y_list ?y_max ?y_min ?y_range ?y_set ?y_sorted ?y_str ?y_tuple ?y_zip
  (case a0=>k_is)
  (case l0=>k_is)
  (case c0=>k_is)
  (case k0=>k_is)
  (case a1=>k_is)
  (case l1=>k_is)
  (case c1=>k_is)
  (case k1=>k_is)
  (case a2=>k_is)
  (case l2=>k_is)
  (case c2=>k_is)
  (case k2=>k_is)
  (case a3=>k_is)
  (case l3=>k_is)
  (case c3=>k_is)
  (case k3=>k_is)
  (case a4=>k_is)
  (case l4=>k_is)
  (case c4=>k_is)
  (case k4=>k_is)
  (case a5=>k_is)
  (case l5=>k_is)
  (case c5=>k_is)
  (case k5=>k_is)
  (case a6=>k_is)
  (case l6=>k_is)
  (case c6=>k_is)
  (case k6=>k_is)
  (case a7=>k_is)
  (case l7=>k_is)
  (case c7=>k_is)
  (case k7=>k_is)
  (case a8=>k_is)
  (case l8=>k_is)
  (case c8=>k_is)
  (case k8=>k_is)
  (case a9=>k_is)
  (case l9=>k_is)
  (case c9=>k_is)
  (case k9=>k_is)
  (case a10=>k_is)
  (case l10=>k_is)
  (case c10=>k_is)
  (case k10=>k_is)
  (case a11=>k_is)
  (case l11=>k_is)
  (case c11=>k_is)
  (case k11=>k_is)
  (case a12=>k_is)
  (case l12=>k_is)
  (case c12=>k_is)
  (case k12=>k_is)
  (case a13=>k_is)
  (case l13=>k_is)
  (case c13=>k_is)
  (case k13=>k_is)
  (case a14=>k_is)
  (case l14=>k_is)
  (case c14=>k_is)
  (case k14=>k_is)
  (case a15=>k_is)
  (case l15=>k_is)
  (case c15=>k_is)
  (case k15=>k_is)
  (case a16=>k_is)
  (case l16=>k_is)
  (case c16=>k_is)
  (case k16=>k_is)
  (case a17=>k_is)
  (case l17=>k_is)
  (case c17=>k_is)
  (case k17=>k_is)
  (case a18=>k_is)
  (case l18=>k_is)
  (case c18=>k_is)
  (case k18=>k_is)
  (case a19=>k_is)
  (case l19=>k_is)
  (case c19=>k_is)
  (case k19=>k_is)
  (case a20=>k_is)
  (case l20=>k_is)
  (case c20=>k_is)
  (case k20=>k_is)
  (case a21=>k_is)
  (case l21=>k_is)
  (case c21=>k_is)
  (case k21=>k_is)
  (case a22=>k_is)
  (case l22=>k_is)
  (case c22=>k_is)
  (case k22=>k_is)
  (case a23=>k_is)
  (case l23=>k_is)
  (case c23=>k_is)
  (case k23=>k_is)
  (case a24=>k_is)
  (case l24=>k_is)
  (case c24=>k_is)
  (case k24=>k_is)
  (case a25=>k_is)
  (case l25=>k_is)
  (case c25=>k_is)
  (case k25=>k_is)
  (case a26=>k_is)
  (case l26=>k_is)
  (case c26=>k_is)
  (case k26=>k_is)
  (case a27=>k_is)
  (case l27=>k_is)
  (case c27=>k_is)
  (case k27=>k_is)
  (case a28=>k_is)
  (case l28=>k_is)
  (case c28=>k_is)
  (case k28=>k_is)
  (case a29=>k_is)
  (case l29=>k_is)
  (case c29=>k_is)
  (case k29=>k_is)
  (case a30=>k_is)
  (case l30=>k_is)
  (case c30=>k_is)
  (case k30=>k_is)
  (case a31=>k_is)
  (case l31=>k_is)
  (case c31=>k_is)
  (case k31=>k_is)
  (case a32=>k_is)
  (case l32=>k_is)
  (case c32=>k_is)
  (case k32=>k_is)
  (case a33=>k_is)
  (case l33=>k_is)
  (case c33=>k_is)
  (case k33=>k_is)
  (case a34=>k_is)
  (case l34=>k_is)
  (case c34=>k_is)
  (case k34=>k_is)
  (case a35=>k_is)
  (case l35=>k_is)
  (case c35=>k_is)
  (case k35=>k_is)
  (case a36=>k_is)
  (case l36=>k_is)
  (case c36=>k_is)
  (case k36=>k_is)
  (case y_all=>k_is)
  (case y_any=>k_is)
  (case y_bool=>k_is)
  (case y_enumerate=>k_is)
  (case y_int=>k_is)
  (case y_isinstance=>k_is)
  (case y_len=>k_is)
  (case y_list=>k_is)
  (case y_max=>k_is)
  (case y_min=>k_is)
  (case y_range=>k_is)
  (case y_set=>k_is)
  (case y_sorted=>k_is)
  (case y_str=>k_is)
  (case y_tuple=>k_is)
  (case y_zip=>k_is)
