import PyProof.Rows.All
import Wide.All
import OpenK.AllK
import Wide.FinOn
import PyProof.EqAt
import PyProof.EqKinds
import PyProof.TupleCall
import KE.BitLaws
import Open.SpecLaws
import KE.OsHead
import KE.OsGo
import PySem.Str
import PyProof.RaisesMany
import PyProof.PassesOwn
import PyProof.ExcInit
import OpenK.KMake
import PyProof.ExcBaseAll.Exception
import PyProof.InstStoreFacts
import KE.KRevIter
import PyProof.CollectIter
import OpenK.KWalk
import KE.KTryMore
import PyProof.ExcAttrAll.Exception
import PySem.Challenge.RW_undorundesk_s01_check
set_option Elab.async false
set_option linter.all false
set_option maxRecDepth 100000
namespace L2
open PySem PySem.Spec PyProof.Rows
abbrev Key:=Sum Int Str
def keyIs:Key->Value->Bool
 | .inl k,v=>Value.isInt k v
 | .inr x,v=>Value.isStrOf x v
def keyH (w:World):Key->Int
 | .inl k=>hashInt k
 | .inr x=>hashStr w x
theorem keyIs_shape:∀ {k:Key} {v:Value},keyIs k v=true->(∃ i t,k=Sum.inl i/\v=Value.int i t)\/(∃ x t,k=Sum.inr x/\v=Value.str x t)
 | .inl i,v,h=>by
  obtain ⟨t,e⟩:=Value.isInt_shape (k:=i) (v:=v) h
  exact .inl ⟨i,t,rfl,e⟩
 | .inr x,v,h=>by
  obtain ⟨t,e⟩:=Value.isStrOf_shape (x:=x) (v:=v) h
  exact .inr ⟨x,t,rfl,e⟩
theorem keyIs_int (i:Int) (t:Tok):keyIs (.inl i) (.int i t)=true:=by simp [keyIs,Value.isInt]
theorem keyIs_str (x:Str) (t:Tok):keyIs (.inr x) (.str x t)=true:=by simp [keyIs,Value.isStrOf]
theorem key_ll (a b:Int):decide ((Sum.inl a:Key)=Sum.inl b)=(a == b):=by
 by_cases e:a=b
 ·subst e; simp
 ·have h:¬ (Sum.inl a:Key)=Sum.inl b:=fun q=>e (Sum.inl.inj q)
  rw [decide_eq_false h]
  exact (beq_eq_false_iff_ne.mpr e).symm
theorem key_rr (a b:Str):decide ((Sum.inr a:Key)=Sum.inr b)=decide (a=b):=by
 by_cases e:a=b
 ·subst e; simp
 ·have h:¬ (Sum.inr a:Key)=Sum.inr b:=fun q=>e (Sum.inr.inj q)
  rw [decide_eq_false h,decide_eq_false e]
theorem key_lr (a:Int) (b:Str):decide ((Sum.inl a:Key)=Sum.inr b)=false:=decide_eq_false (fun q=>nomatch q)
theorem key_rl (a:Str) (b:Int):decide ((Sum.inr a:Key)=Sum.inl b)=false:=decide_eq_false (fun q=>nomatch q)
def mixKind (prog:Program) (w:World):PySem.KeyKind prog w Key where
 is:=keyIs
 hash:=keyH w
 inj:=fun v a b ha hb=>by
  rcases keyIs_shape ha with ⟨i,t,rfl,rfl⟩ | ⟨x,t,rfl,rfl⟩
  ·rcases keyIs_shape hb with ⟨j,u,rfl,e⟩ | ⟨y,u,rfl,e⟩
   ·injection e with e1 _; rw [e1]
   ·exact nomatch e
  ·rcases keyIs_shape hb with ⟨j,u,rfl,e⟩ | ⟨y,u,rfl,e⟩
   ·exact nomatch e
   ·injection e with e1 _; rw [e1]
 byValue:=fun k v h=>by
  rcases keyIs_shape h with ⟨i,t,rfl,rfl⟩ | ⟨x,t,rfl,rfl⟩ <;> rfl
 pyHash:=fun hv h=>by
  rcases keyIs_shape hv with ⟨i,t,rfl,rfl⟩ | ⟨x,t,rfl,rfl⟩
  ·exact wpAny_pyHash_int h
  ·exact wpAny_pyHash_str h
 eqBool:=fun hu hv h=>by
  rcases keyIs_shape hu with ⟨i,t,rfl,rfl⟩ | ⟨x,t,rfl,rfl⟩
  ·rcases keyIs_shape hv with ⟨j,u,rfl,rfl⟩ | ⟨y,u,rfl,rfl⟩
   ·rw [key_ll] at h; exact wpAny_eqBool_int h
   ·rw [key_lr] at h; exact SeqAt.EqAt.int_str i t y u _ _ _ _ h
  ·rcases keyIs_shape hv with ⟨j,u,rfl,rfl⟩ | ⟨y,u,rfl,rfl⟩
   ·rw [key_rl] at h; exact SeqAt.EqAt.str_int x t j u _ _ _ _ h
   ·rw [key_rr] at h; exact wpAny_eqBool_str h
 «strs»:=fun k x t v h=>by
  rcases keyIs_shape h with ⟨i,u,rfl,e⟩ | ⟨y,u,rfl,e⟩
  ·exact nomatch e
  ·injection e with e1 _
   subst e1
   cases v <;> rfl
theorem mixKind_int (prog:Program) (w:World) (i:Int) (t:Tok):(mixKind prog w).is (.inl i) (.int i t)=true:=keyIs_int i t
theorem mixKind_str (prog:Program) (w:World) (x:Str) (t:Tok):(mixKind prog w).is (.inr x) (.str x t)=true:=keyIs_str x t
end L2
namespace L2
open PySem PySem.Spec PyProof.Rows
inductive V where
 | non | bl (b:Bool) | int (i:Int) | str (x:Str) | byt (b:Array UInt8) | flt (b:UInt64) | ref (a:Addr) | ty (n:String)
 deriving DecidableEq
def RelV:V->Value->Prop
 | .non,u=>u=Value.none
 | .bl b,u=>u=Value.bool b
 | .int i,u=>∃ t,u=Value.int i t
 | .str x,u=>∃ t,u=Value.str x t
 | .byt b,u=>∃ t,u=Value.bytes b t
 | .flt b,u=>∃ t,u=Value.float b t
 | .ref a,u=>u=Value.ref a
 | .ty n,u=>u=Value.type n
abbrev Vals:List V->List Value->Prop:=Paired RelV
theorem Vals.length {xs:List V} {us:List Value} (r:Vals xs us):xs.length=us.length:=Paired.length r
theorem Vals.get:∀ {xs:List V} {us:List Value} {i:Nat} {x:V},Vals xs us->xs[i]?=some x->∃ u,us[i]?=some u/\RelV x u
 | _,_,_,_,.nil,e=>by simp at e
 | _,_,0,_,.cons r _,e=>by simp at e; subst e; exact ⟨_,rfl,r⟩
 | _,_,i+1,x,.cons _ t,e=>by
  obtain ⟨u,h1,h2⟩:=Vals.get (i:=i) (x:=x) t (by simpa using e)
  exact ⟨u,by simpa using h1,h2⟩
theorem Vals.append:∀ {xs ys:List V} {us ws:List Value},Vals xs us->Vals ys ws->Vals (xs++ys) (us++ws)
 | _,_,_,_,.nil,s=>s
 | _,_,_,_,.cons r t,s=>.cons r (Vals.append t s)
theorem Vals.take:∀ {xs:List V} {us:List Value} (n:Nat),Vals xs us->Vals (xs.take n) (us.take n)
 | _,_,0,_=>.nil
 | _,_,_+1,.nil=>.nil
 | _,_,n+1,.cons r t=>.cons r (Vals.take n t)
theorem Vals.drop:∀ {xs:List V} {us:List Value} (n:Nat),Vals xs us->Vals (xs.drop n) (us.drop n)
 | _,_,0,r=>r
 | _,_,_+1,.nil=>.nil
 | _,_,n+1,.cons _ t=>Vals.drop n t
def RelO:Option V->Option Value->Prop
 | some v,some u=>RelV v u
 | none,none=>True
 | _,_=>False
def KV {κ:Type}:List (κ×V)->List (κ×Value)->Prop:=Paired fun (p:κ×V) (q:κ×Value)=>p.1=q.1/\RelV p.2 q.2
def kV:Key->V
 | .inl i=>.int i
 | .inr x=>.str x
inductive HO where
 /-- a list -/
 | lst (xs:List V)
 /-- a tuple (never changes) -/
 | tup (xs:List V)
 /-- a dict whose keys are ints and texts; one whose keys are tuples of ints and texts (the empty one is both) -/
 | dK (kvs:List (Key×V)) | dT (kvs:List (List Key×V))
 /-- a set of ints: its members,its size -/
 | set (S:Int->Bool) (n:Nat)
 /-- an instance of the class at C,its dict at dx,its attributes -/
 | ins (C dx:Addr) (fs:List (Str×V))
 /-- the dict of the instance at x -/
 | own (x:Addr)
 /-- the dict of an exception -/
 | xd (fs:List (Str×V))
 /-- a bound method,f of x -/
 | met (f x:Addr)
 /-- a range object lo,lo+1,.. below hi -/
 | rng (lo hi:Int)
 /-- a thing that is known to the object (the script; a dict while a loop walks it): read,never written while it is so -/
 | frz (o:Obj) (u:HO)
 /-- a code object's table -/
 | tbl (ps:Array Value)
 /-- any other thing,by what is true of its one object (a def of one's own: SetO a S n:=HO.ext fun h=>..) -/
 | ext (φ:Heap->Prop)
abbrev Hp:=Addr->Option HO
def upd (H:Hp) (a:Addr) (o:HO):Hp:=fun b=>if b=a then some o else H b
theorem upd_same {H:Hp} {a:Addr} {o:HO}:upd H a o a=some o:=by unfold upd; rw [if_pos rfl]
theorem upd_ne {H:Hp} {a b:Addr} {o:HO} (h:b≠a):upd H a o b=H b:=by unfold upd; rw [if_neg h]
theorem upd_upd {H:Hp} {a:Addr} {o u:HO}:upd (upd H a o) a u=upd H a u:=by
 funext b; unfold upd; split <;> rfl
theorem ne_of {H:Hp} {a b:Addr} {o u:HO} (h:H a=some o) (h':H b=some u) (d:o≠u):a≠b:=by
 intro e; subst e; rw [h] at h'; exact d (Option.some.inj h')
theorem ne_of_none {H:Hp} {a b:Addr} {o:HO} (h:H a=some o) (h':H b=none):a≠b:=by
 intro e; subst e; rw [h] at h'; cases h'
section
variable (P:Program) (w:World)
def ObjOk (H:Hp) (h:Heap) (a:Addr):HO->Prop
 | .lst xs=>xs.length<=sizeLine/\∃ (its:List Value) (n:Nat),Vals xs its/\h.get? a=some { cls:=.type "list",data:=.seq its.toArray n }
 | .tup xs=>xs.length<=sizeLine/\∃ its:List Value,Vals xs its/\IsTup h a its.toArray
 | .dK kvs=>kvs.length<=sizeLine/\(a == sysModules)=false/\∃ vs,KV kvs vs/\h.DictOf (mixKind P w) a vs
 | .dT kvs=>kvs.length<=sizeLine/\(a == sysModules)=false/\∃ xs:List (List Key×Addr×Value),
   Paired (fun (p:List Key×V) (q:List Key×Addr×Value)=>p.1=q.1/\H q.2.1=some (.tup (p.1.map kV))/\RelV p.2 q.2.2) kvs xs /\
   ∃ o es ep,h.get? a=some o/\o.ExactDict/\o.data=.dict es ep/\es.toList=xs.map (entryOfKey (tupleKind (mixKind P w)))/\(xs.map (·.1)).Nodup
 | .set S n=>h.SetOf (intKind P w) a S n
 | .ins C dx fs=>H dx=some (.own a)/\fs.length<=1000/\dx≠a/\h.get? a=some (PySem.W.instObj C dx) /\
   ∃ mA,h.Ns1 dx mA/\(∀ f,RelO (fs.lookup f) (mA f))/\PySem.Within mA (fs.map (·.1))
 | .own _=>∃ o,h.get? a=some o
 | .xd fs=>∃ mA,h.Ns1 a mA/\∀ f,RelO (fs.lookup f) (mA f)
 | .rng lo hi=>∃ t u v,h.get? a=some { cls:=.type "range",data:=.fields #[.int lo t,.int hi u,.int 1 v] }
 | .frz o u=>h.get? a=some o/\ObjOk H h a u
 | .tbl ps=>h.get? a=some { cls:=.none,data:=.fields ps }
 | .met f x=>h.get? a=some (PySem.W.methodObj (.ref f) (.ref x))
 | .ext φ=>φ h/\(∃ o,h.get? a=some o)/\∀ h1 h2:Heap,φ h1->(∀ o,h1.get? a=some o->h2.get? a=some o)->φ h2
def HOk (H:Hp) (h:Heap):Prop:=∀ a o,H a=some o->ObjOk P w H h a o
end
section
variable {P:Program} {w:World} {H H':Hp} {h h':Heap} {a:Addr} {o:HO}
theorem ObjOk.lt (x:ObjOk P w H h a o):a < h.objs.size:=by
 cases o with
 | lst xs=>obtain ⟨_,_,_,_,e⟩:=x; exact Heap.lt_size e
 | tup xs=>obtain ⟨_,_,_,p⟩:=x; exact p.lt
 | dK kvs=>obtain ⟨_,_,_,_,o,_,_,e,_⟩:=x; exact Heap.lt_size e
 | dT kvs=>obtain ⟨_,_,_,_,o,_,_,e,_⟩:=x; exact Heap.lt_size e
 | set S n=>obtain ⟨o,_,_,_,e,_⟩:=x; exact Heap.lt_size e
 | ins C dx fs=>obtain ⟨_,_,_,e,_⟩:=x; exact Heap.lt_size e
 | own y=>obtain ⟨_,e⟩:=x; exact Heap.lt_size e
 | xd fs=>obtain ⟨_,⟨_,_,_,e,_⟩,_⟩:=x; exact Heap.lt_size e
 | rng lo hi=>obtain ⟨_,_,_,e⟩:=x; exact Heap.lt_size e
 | frz ob u=>obtain ⟨e,_⟩:=x; exact Heap.lt_size e
 | tbl ps=>exact Heap.lt_size (show h.get? a=some _ from x)
 | met f y=>exact Heap.lt_size (show h.get? a=some _ from x)
 | ext φ=>obtain ⟨_,⟨_,e⟩,_⟩:=x; exact Heap.lt_size e
theorem Paired.mapP {α β:Type} {F G:α->β->Prop}:∀ {l₁:List α} {l₂:List β},Paired F l₁ l₂->(∀ a b,F a b->G a b)->Paired G l₁ l₂
 | _,_,.nil,_=>.nil
 | _,_,.cons r t,f=>.cons (f _ _ r) (Paired.mapP t f)
theorem ObjOk.stay (x:ObjOk P w H h a o) (k:∀ b u,(b=a\/H b=some (.own a))->h.get? b=some u->h'.get? b=some u)
  (ho:∀ b,H b=some (.own a)->H' b=some (.own a)) (ht:∀ b xs,H b=some (.tup xs)->H' b=some (.tup xs)):ObjOk P w H' h' a o:=by
 induction o with
 | lst xs=>obtain ⟨z,its,n,r,e⟩:=x; exact ⟨z,its,n,r,k _ _ (.inl rfl) e⟩
 | tup xs=>obtain ⟨z,its,r,ob,e,c⟩:=x; exact ⟨z,its,r,ob,k _ _ (.inl rfl) e,c⟩
 | dK kvs=>obtain ⟨z,y,vs,r,ob,es,ep,e,c⟩:=x; exact ⟨z,y,vs,r,ob,es,ep,k _ _ (.inl rfl) e,c⟩
 | dT kvs =>
  obtain ⟨z,y,xs,r,ob,es,ep,e,c⟩:=x
  exact ⟨z,y,xs,Paired.mapP r fun p q z=>⟨z.1,ht _ _ z.2.1,z.2.2⟩,ob,es,ep,k _ _ (.inl rfl) e,c⟩
 | set S n=>obtain ⟨ob,es,ep,t,e,c⟩:=x; exact ⟨ob,es,ep,t,k _ _ (.inl rfl) e,c⟩
 | ins C dx fs =>
  obtain ⟨d,z,ne,e,mA,⟨od,es,ep,e2,c⟩,r⟩:=x
  exact ⟨ho _ d,z,ne,k _ _ (.inl rfl) e,mA,⟨od,es,ep,k _ _ (.inr d) e2,c⟩,r⟩
 | own y=>obtain ⟨ob,e⟩:=x; exact ⟨ob,k _ _ (.inl rfl) e⟩
 | xd fs=>obtain ⟨mA,⟨od,es,ep,e,c⟩,r⟩:=x; exact ⟨mA,⟨od,es,ep,k _ _ (.inl rfl) e,c⟩,r⟩
 | rng lo hi=>obtain ⟨t,u,v,e⟩:=x; exact ⟨t,u,v,k _ _ (.inl rfl) e⟩
 | frz ob u ih=>obtain ⟨e,q⟩:=x; exact ⟨k _ _ (.inl rfl) e,ih q⟩
 | tbl ps =>
  have e:h.get? a=some { cls:=.none,data:=.fields ps }:=x
  show h'.get? a=some { cls:=.none,data:=.fields ps }
  exact k a _ (.inl rfl) e
 | met f y =>
  have e:h.get? a=some (PySem.W.methodObj (.ref f) (.ref y)):=x
  show h'.get? a=some (PySem.W.methodObj (.ref f) (.ref y))
  exact k a _ (.inl rfl) e
 | ext φ=>obtain ⟨p,⟨o,e⟩,st⟩:=x; exact ⟨st _ _ p fun o q=>k _ _ (.inl rfl) q,⟨o,k _ _ (.inl rfl) e⟩,st⟩
theorem HOk.lt (x:HOk P w H h) (e:H a=some o):a < h.objs.size:=(x a o e).lt
theorem HOk.fresh (x:HOk P w H h) (e:h.objs.size<=a):H a=none:=by
 cases q:H a with
 | none=>rfl
 | some u=>exact absurd (Nat.lt_of_lt_of_le (x.lt q) e) (Nat.lt_irrefl _)
theorem HOk.kept (x:HOk P w H h) (k:∀ b u,h.get? b=some u->h'.get? b=some u):HOk P w H h':=fun a o e =>
 (x a o e).stay (fun b u _ q=>k b u q) (fun _ q=>q) fun _ _ q=>q
theorem HOk.laid (x:HOk P w H h) (k:∀ b u,h.get? b=some u->h'.get? b=some u) (hp:h.objs.size<=a) (new:ObjOk P w (upd H a o) h' a o):HOk P w (upd H a o) h':=fun b u e=>by
 have hn:=x.fresh hp
 by_cases hb:b=a
 ·subst hb; rw [upd_same] at e; cases e; exact new
 ·rw [upd_ne hb] at e
  exact (x b u e).stay (fun c v _ q=>k c v q) (fun c q=>by rw [upd_ne (ne_of_none q hn)]; exact q) fun c xs q=>by rw [upd_ne (ne_of_none q hn)]; exact q
end
def Rd (H:Hp) (a:Addr) (u:HO):Prop:=H a=some u\/∃ o,H a=some (.frz o u)
theorem Rd.ok {P:Program} {w:World} {H:Hp} {h:Heap} {a:Addr} {u:HO} (r:Rd H a u) (x:HOk P w H h):ObjOk P w H h a u:=by
 rcases r with r | ⟨o,r⟩
 ·exact x a u r
 ·obtain ⟨_,q⟩:=x a _ r
  exact q
def Mut:Option HO->Prop
 | some (.lst _)=>True
 | some (.dK _)=>True
 | some (.dT _)=>True
 | some (.set _ _)=>True
 | some (.ins _ _ _)=>True
 | some (.ext _)=>True
 | _=>False
section
variable {P:Program} {w:World} {H:Hp} {h h':Heap} {x e:Addr} {o':HO}
theorem HOk.write (ok:HOk P w H h) (mu:Mut (H x)) (he:e=x\/H e=some (.own x)) (k:∀ b u,b≠e->h.get? b=some u->h'.get? b=some u) (heo:∃ u,h'.get? e=some u)
  (new:ObjOk P w (upd H x o') h' x o'):HOk P w (upd H x o') h':=fun b u q=>by
 have nown:∀ c y,H c=some (.own y)->c≠x:=fun c y r z=>by subst z; rw [r] at mu; exact mu
 have ntup:∀ c xs,H c=some (.tup xs)->c≠x:=fun c xs r z=>by subst z; rw [r] at mu; exact mu
 by_cases hb:b=x
 ·subst hb; rw [upd_same] at q; cases q; exact new
 ·rw [upd_ne hb] at q
  by_cases hbe:b=e
  ·have q':H b=some (.own x):=by
    rcases he with z | z
    ·exact absurd (hbe.trans z) hb
    ·rw [hbe]; exact z
   rw [q] at q'; cases q'
   obtain ⟨v,hv⟩:=heo
   exact ⟨v,by rw [hbe]; exact hv⟩
  ·refine (ok b u q).stay (fun c v hc r=>k c v ?_ r) (fun c r=>by rw [upd_ne (nown c b r)]; exact r) fun c xs r=>by rw [upd_ne (ntup c xs r)]; exact r
   rcases hc with rfl | hc
   ·exact hbe
   ·rintro rfl
    rcases he with z | z
    ·exact nown c b hc z
    ·rw [hc] at z; cases z; exact hb rfl
end
structure Un (fs ex:List Addr) (H H':Hp) (h h':Heap):Prop where
 keep:∀ b o,h.get? b=some o->H b=none->b ∉ fs->b ∉ ex->h'.get? b=some o
 slot:∀ b o,h.get? b=some o->H b=none->b ∈ fs->b ∉ ex->∃ sl,h'.get? b=some { o with slots:=sl }
 free:∀ b o,h.get? b=some o->H b=none->b ∉ ex->H' b=none
 there:∀ b o,h.get? b=some o->b ∉ ex->∃ o',h'.get? b=some o'
 tups:∀ b xs,H b=some (.tup xs)->H' b=some (.tup xs)
 frzs:∀ b o u,H b=some (.frz o u)->H' b=some (.frz o u)
 tbls:∀ b ps,H b=some (.tbl ps)->∃ more,H' b=some (.tbl (ps++more))
section
variable {fs fs' ex ex':List Addr} {H H1 H2:Hp} {h h1 h2 h':Heap} {a x e:Addr} {o:HO}
theorem Un.any (u:Un fs ex H H1 h h1) {b:Addr} {ob:Obj} (q:h.get? b=some ob) (n:H b=none) (hx:b ∉ ex):∃ sl,h1.get? b=some { ob with slots:=sl }:=by
 by_cases hb:b ∈ fs
 ·exact u.slot b ob q n hb hx
 ·exact ⟨ob.slots,u.keep b ob q n hb hx⟩
theorem Un.kept (k:∀ b u,h.get? b=some u->h'.get? b=some u):Un fs ex H H h h' :=
 ⟨fun b ob q _ _ _=>k b ob q,fun b ob q _ _ _=>⟨ob.slots,k b ob q⟩,fun _ _ _ n _=>n,fun b ob q _=>⟨ob,k b ob q⟩,fun _ _ q=>q,fun _ _ _ q=>q,fun _ ps q=>⟨#[],by rw [q]; simp⟩⟩
theorem Un.refl:Un fs ex H H h h:=Un.kept fun _ _ q=>q
theorem Un.laid (k:∀ b u,h.get? b=some u->h'.get? b=some u) (hp:h.objs.size<=a) (hn:H a=none):Un fs ex H (upd H a o) h h' where
 keep:=fun b u q _ _ _=>k b u q
 slot:=fun b u q _ _ _=>⟨u.slots,k b u q⟩
 free:=fun b u q n _=>by rw [upd_ne (Nat.ne_of_lt (Nat.lt_of_lt_of_le (Heap.lt_size q) hp))]; exact n
 there:=fun b u q _=>⟨u,k b u q⟩
 tups:=fun b xs q=>by rw [upd_ne (ne_of_none q hn)]; exact q
 frzs:=fun b u xs q=>by rw [upd_ne (ne_of_none q hn)]; exact q
 tbls:=fun b ps q=>⟨#[],by rw [upd_ne (ne_of_none q hn),q]; simp⟩
theorem Un.write (mu:Mut (H x)) (he:e=x\/H e=some (.own x)) (k:∀ b u,b≠e->h.get? b=some u->h'.get? b=some u) (heo:∃ u,h'.get? e=some u):Un fs ex H (upd H x o) h h':=by
 have hx:∀ b,H b=none->b≠x:=fun b n z=>by subst z; rw [n] at mu; exact mu
 have hb:∀ b,H b=none->b≠e:=fun b n z=>by
  subst z
  rcases he with r | r
  ·exact hx b n r
  ·rw [n] at r; cases r
 have hm:∀ b u,H b=some u->¬ Mut (some u)->b≠x:=fun b u q nm z=>by subst z; rw [q] at mu; exact nm mu
 refine ⟨fun b u q n _ _=>k b u (hb b n) q,fun b u q n _ _=>⟨u.slots,k b u (hb b n) q⟩,fun b u q n _=>by rw [upd_ne (hx b n)]; exact n,fun b u q _=>?_,
  fun b xs q=>by rw [upd_ne (hm b _ q fun z=>z)]; exact q,fun b u xs q=>by rw [upd_ne (hm b _ q fun z=>z)]; exact q,fun b ps q=>⟨#[],by rw [upd_ne (hm b _ q fun z=>z),q]; simp⟩⟩
 by_cases hbe:b=e
 ·subst hbe; exact heo
 ·exact ⟨u,k b u hbe q⟩
end
def trk (h:Heap) (H:Hp):List Addr:=(List.range h.objs.size).filter fun a=>(H a).isSome
def hidT (h:Heap) (H:Hp):Heap:=PySem.W.hideAll h (trk h H)
theorem hidT_size (h:Heap) (H:Hp):(hidT h H).objs.size=h.objs.size:=PySem.W.hideAll_size _ _
theorem hidT_get {h:Heap} {H:Hp} {b:Addr} {o:Obj} (e:h.get? b=some o) (n:H b=none):(hidT h H).get? b=some o :=
 PySem.W.hideAll_get _ e fun hm=>by
  have q:(H b).isSome=true:=(List.mem_filter.mp hm).2
  rw [n] at q; simp at q
theorem of_hidT {h:Heap} {H:Hp} {b:Addr} {o:Obj} (e:(hidT h H).get? b=some o):h.get? b=some o/\H b=none:=by
 have e':h.get? b=some o:=PySem.W.of_hideAll (trk h H) e
 refine ⟨e',?_⟩
 cases q:H b with
 | none=>rfl
 | some x =>
  have hm:b ∈ trk h H:=List.mem_filter.mpr ⟨List.mem_range.mpr (Heap.lt_size e'),by simp [q]⟩
  have z:(hidT h H).get? b=none:=PySem.W.hideAll_none (trk h H) hm
  rw [z] at e; cases e
end L2
namespace L2
open PySem PySem.Spec PyProof.Rows
structure Mod (K:PySem.W.Frag) (mg:Str->Option Value) (base:Heap):Prop where
 kin:K.In base
 glob:base.Ns mainGlobals mg
 blt:∃ mb,base.Ns builtinsNs mb/\∀ x:Str,x ≠ "__name__" -> mb x=bootBuiltins x
 nolimit:base.NoLimit
structure Cx where
 prog:Program
 w:World
 K:PySem.W.Frag
 mg:Str->Option Value
 base:Heap
 A:Around
 N:List Str
 s_0:Shared
 H_0:Hp
 env:Env
 outer:List Env
 stack:List Env
 ex:List Addr
 fn:Str->Bool
 calm:Bool
 pn:List (Addr×Obj)
 xe:Value->Shared->Prop
def frs (l:List Env):List Addr:=l.filterMap (·.frame)
abbrev Cx.fs (X:Cx):List Addr:=frs X.outer
def Vis (sc:Scope) (x:Str):Prop:=sc.names.lookup x=some .local\/sc.names.lookup x=some .cell\/sc.names.lookup x=some .free
def Loc (sc:Scope) (x:Str):Prop:=sc.names.lookup x=some .local\/sc.names.lookup x=some .cell
def Look (env:Env) (h:Heap) (m:Str->Option Value) (x:Str) (u:Value):Prop :=
 (env.kindOf x=some .local/\m x=some u)\/((env.kindOf x=some .cell\/env.kindOf x=some .free)/\∃ c,env.cells.lookup x=some c/\h.IsCell c (some u))
structure Cx.Ok (X:Cx):Prop where
 mod:Mod X.K X.mg X.base
 kind:X.env.scope.kind=.function
 glob:X.env.globals=mainGlobals
 blt:X.env.builtins=builtinsNs
 above:X.s_0.heap.objs.size<=X.env.locals
 inj:∀ x y c,X.env.cells.lookup x=some c->X.env.cells.lookup y=some c->x=y
 has:∀ x,(X.env.kindOf x=some .cell\/X.env.kindOf x=some .free)->∃ c,X.env.cells.lookup x=some c
 cab:∀ x c,X.fn x=true->X.env.cells.lookup x=some c->X.s_0.heap.objs.size<=c
 hd:X.calm=true->X.A.handled=none
 frames:X.A.frames=some X.stack
 stk:X.stack=X.outer\/(X.stack=X.env :: X.outer/\X.env.frame=some X.env.locals)
 exf:∀ b ∈ X.ex,b≠X.env.locals/\∀ x c,X.env.cells.lookup x=some c->c≠b
 bs:∀ b o,X.base.get? b=some o->X.s_0.heap.get? b=some o/\X.H_0 b=none
 bsz:X.base.objs.size<=X.s_0.heap.objs.size
 noex:∀ b o,X.base.get? b=some o->b ∉ X.ex
 exfs:∀ b ∈ X.ex,b ∉ X.fs
 funs:X.s_0.heap.FunFrames X.base X.outer
 frf:∀ b ∈ X.fs,X.H_0 b=none
structure Inv (X:Cx) (pins:List (Addr×Obj)) (σ:List (Option V)) (H:Hp) (s:Shared):Prop where
 ok:X.Ok
 os:s.os=X.s_0.os
 bare:AllBare s.gens
 base:Un X.fs X.ex X.H_0 H X.s_0.heap s.heap
 loc:∃ m,s.heap.Ns X.env.locals m/\∀ (i:Nat) (x:Str) (v:V),X.N[i]?=some x->σ[i]?=some (some v)->Vis X.env.scope x->∃ u,RelV v u/\Look X.env s.heap m x u
 cell:∀ x c,X.env.cells.lookup x=some c->∃ v,s.heap.IsCell c v
 free:H X.env.locals=none
 freeC:∀ x c,X.env.cells.lookup x=some c->H c=none
 pin:∀ p ∈ X.pn++pins,s.heap.get? p.1=some p.2/\H p.1=none/\p.1≠X.env.locals/\p.1 ∉ X.fs/\∀ v,p.2.data≠.cell v
 hok:HOk X.prog X.w H s.heap
 len:σ.length=X.N.length
section
variable {X:Cx} {pins:List (Addr×Obj)} {σ:List (Option V)} {H H':Hp} {s:Shared} {h':Heap}
theorem Cx.Ok.nofr (ok:X.Ok) {b:Addr} {o:Obj} (e:X.base.get? b=some o):b ∉ X.fs:=fun hb=>by
 have:=(ok.funs.mem hb).1
 rw [e] at this; cases this
theorem Inv.bs (I:Inv X pins σ H s):∀ b o,X.base.get? b=some o->s.heap.get? b=some o/\H b=none:=fun b o e =>
 ⟨I.base.keep b o (I.ok.bs b o e).1 (I.ok.bs b o e).2 (I.ok.nofr e) (I.ok.noex b o e),I.base.free b o (I.ok.bs b o e).1 (I.ok.bs b o e).2 (I.ok.noex b o e)⟩
theorem Inv.bk (I:Inv X pins σ H s):∀ b o,X.base.get? b=some o->s.heap.get? b=some o:=fun b o e=>(I.bs b o e).1
theorem Inv.mod (I:Inv X pins σ H s):Mod X.K X.mg X.base:=I.ok.mod
theorem Inv.kIn (I:Inv X pins σ H s):X.K.In s.heap:=I.ok.mod.kin.keeps I.bk
theorem Inv.fr (I:Inv X pins σ H s):∃ m,Fr X.base X.env.locals s.heap m :=
 let ⟨m,hn,_⟩:=I.loc
 ⟨m,hn,I.bk,Nat.le_trans I.ok.bsz I.ok.above⟩
theorem Inv.lt (I:Inv X pins σ H s):X.env.locals < s.heap.objs.size:=let ⟨_,hn,_⟩:=I.loc; hn.lt
theorem Inv.sz (I:Inv X pins σ H s):X.s_0.heap.objs.size<=s.heap.objs.size:=Nat.le_trans I.ok.above (Nat.le_of_lt I.lt)
theorem Inv.nofs (I:Inv X pins σ H s) {a:Addr} (h:s.heap.objs.size<=a):a ∉ X.fs:=fun hb=>by
 obtain ⟨_,o,ho,_⟩:=I.ok.funs.mem hb
 exact absurd (Nat.lt_of_lt_of_le (Heap.lt_size ho) (Nat.le_trans I.sz h)) (Nat.lt_irrefl _)
theorem Inv.cne (I:Inv X pins σ H s):∀ x c,X.env.cells.lookup x=some c->c≠X.env.locals:=fun x c e z=>by
 obtain ⟨v,o,ho,hd⟩:=I.cell x c e
 obtain ⟨m,⟨o',es,ep,ho',hd',_⟩,_⟩:=I.loc
 rw [z,ho'] at ho; cases ho; rw [hd'] at hd; cases hd
theorem Inv.funs (I:Inv X pins σ H s):s.heap.FunFrames X.base X.outer:=by
 have all:∀ (l:List Env),(∀ b ∈ frs l,b ∈ X.fs)->X.s_0.heap.FunFrames X.base l->s.heap.FunFrames X.base l:=by
  intro l
  induction l with
  | nil=>intro _ _; trivial
  | cons env r ih =>
   intro hs hl
   obtain ⟨hk,⟨L,o,hf,hn,ho,hd⟩,hr⟩:=hl
   have hL:L ∈ X.fs:=hs L (by unfold frs; rw [List.filterMap_cons,hf]; exact List.mem_cons_self)
   obtain ⟨sl,e⟩:=I.base.slot L o ho (I.ok.frf L hL) hL fun z=>I.ok.exfs L z hL
   exact ⟨hk,⟨L,_,hf,hn,e,hd⟩,ih (fun b hb=>hs b (by unfold frs; rw [List.filterMap_cons,hf]; exact List.mem_cons_of_mem _ hb)) hr⟩
 exact all X.outer (fun _ hb=>hb) I.ok.funs
theorem Inv.stack (I:Inv X pins σ H s):s.heap.FunFrames X.base X.stack:=by
 rcases I.ok.stk with e | ⟨e,hf⟩
 ·rw [e]; exact I.funs
 ·rw [e]
  obtain ⟨m,hn,_⟩:=I.loc
  refine .cons (by rw [I.ok.kind]; decide) hf hn ?_ I.funs
  exact Heap.get?_none_of_le (Nat.le_trans I.ok.bsz I.ok.above)
theorem Inv.stkSub (I:Inv X pins σ H s):∀ b ∈ frs X.stack,b ∈ X.env.locals :: X.fs:=fun b hb=>by
 rcases I.ok.stk with e | ⟨e,hf⟩
 ·rw [e] at hb; exact List.mem_cons_of_mem _ hb
 ·rw [e] at hb
  unfold frs at hb
  rw [List.filterMap_cons,hf] at hb
  exact hb
theorem Inv.stkFree (I:Inv X pins σ H s):∀ b ∈ frs X.stack,H b=none:=fun b hb=>by
 rcases List.mem_cons.mp (I.stkSub b hb) with e | hb
 ·rw [e]; exact I.free
 ·obtain ⟨_,o,ho,_⟩:=I.ok.funs.mem hb
  exact I.base.free b o ho (I.ok.frf b hb) fun z=>I.ok.exfs b z hb
theorem Inv.step {g':Array GenState} {t':Nat} {d':Drawn} {ch:List Addr} (I:Inv X pins σ H s)
  (hch:∀ b ∈ ch,(b ∈ X.ex\/X.s_0.heap.objs.size<=b)/\b≠X.env.locals/\(∀ x c,X.env.cells.lookup x=some c->c≠b)/\∀ p ∈ X.pn++pins,p.1≠b)
  (keep:∀ b o,b≠X.env.locals->b ∉ X.fs->b ∉ ch->s.heap.get? b=some o->H b=none->h'.get? b=some o)
  (slot:∀ b o,b≠X.env.locals->b ∈ X.fs->b ∉ ch->s.heap.get? b=some o->H b=none->∃ sl,h'.get? b=some { o with slots:=sl }) (free:∀ b o,b ∉ ch->s.heap.get? b=some o->H b=none->H' b=none)
  (there:∀ b o,b ∉ ch->s.heap.get? b=some o->∃ o',h'.get? b=some o')
  (tups:∀ b xs,H b=some (.tup xs)->H' b=some (.tup xs)) (frzs:∀ b o u,H b=some (.frz o u)->H' b=some (.frz o u)) (tbls:∀ b ps,H b=some (.tbl ps)->∃ more,H' b=some (.tbl (ps++more)))
  (ns:∀ m,s.heap.Ns X.env.locals m->h'.Ns X.env.locals m) (hok:HOk X.prog X.w H' h') (hg:AllBare g') :
  Inv X pins σ H' { s with heap:=h',gens:=g',drawn:=d',toks:=t' }:=by
 have neL:∀ b o,X.s_0.heap.get? b=some o->b≠X.env.locals:=fun b o e=>Nat.ne_of_lt (Nat.lt_of_lt_of_le (Heap.lt_size e) I.ok.above)
 have neC:∀ b o,X.s_0.heap.get? b=some o->b ∉ X.ex->b ∉ ch:=fun b o e hx hb=>by
  rcases (hch b hb).1 with z | z
  ·exact hx z
  ·exact absurd (Nat.lt_of_lt_of_le (Heap.lt_size e) z) (Nat.lt_irrefl _)
 have cellK:∀ x c,X.env.cells.lookup x=some c->∀ v,s.heap.IsCell c v->h'.IsCell c v:=fun x c e v ⟨o,ho,hd⟩=>by
  have nch:c ∉ ch:=fun z=>(hch c z).2.2.1 x c e rfl
  by_cases hc:c ∈ X.fs
  ·obtain ⟨sl,q⟩:=slot c o (I.cne x c e) hc nch ho (I.freeC x c e)
   exact ⟨_,q,hd⟩
  ·exact ⟨o,keep c o (I.cne x c e) hc nch ho (I.freeC x c e),hd⟩
 refine ⟨I.ok,I.os,hg,⟨fun b o e n hb hx=>?_,fun b o e n hb hx=>?_,fun b o e n hx=>?_,fun b o e hx=>?_,fun b xs e=>tups b xs (I.base.tups b xs e),fun b o xs e=>frzs b o xs (I.base.frzs b o xs e),fun b ps e=>?_⟩,?_,fun x c e=>?_,?_,fun x c e=>?_,fun p hp=>?_,hok,I.len⟩
 ·exact keep b o (neL b o e) hb (neC b o e hx) (I.base.keep b o e n hb hx) (I.base.free b o e n hx)
 ·obtain ⟨sl,e1⟩:=I.base.slot b o e n hb hx
  obtain ⟨sl',e2⟩:=slot b _ (neL b o e) hb (neC b o e hx) e1 (I.base.free b o e n hx)
  exact ⟨sl',e2⟩
 ·obtain ⟨o',e1⟩:=I.base.there b o e hx
  exact free b o' (neC b o e hx) e1 (I.base.free b o e n hx)
 ·obtain ⟨o',e1⟩:=I.base.there b o e hx
  exact there b o' (neC b o e hx) e1
 ·obtain ⟨m1,e1⟩:=I.base.tbls b ps e
  obtain ⟨m2,e2⟩:=tbls b _ e1
  exact ⟨m1++m2,by rw [e2,Array.append_assoc]⟩
 ·obtain ⟨m,hn,hl⟩:=I.loc
  refine ⟨m,ns m hn,fun i x v e1 e2 e3=>?_⟩
  obtain ⟨u,r,l⟩:=hl i x v e1 e2 e3
  refine ⟨u,r,?_⟩
  rcases l with l | ⟨k,c,e,z⟩
  ·exact .inl l
  ·exact .inr ⟨k,c,e,cellK x c e _ z⟩
 ·obtain ⟨v,z⟩:=I.cell x c e
  exact ⟨v,cellK x c e v z⟩
 ·obtain ⟨m,⟨o,_,_,ho,_⟩,_⟩:=I.loc
  exact free _ o (fun z=>(hch _ z).2.1 rfl) ho I.free
 ·obtain ⟨v,o,ho,hd⟩:=I.cell x c e
  exact free c o (fun z=>(hch c z).2.2.1 x c e rfl) ho (I.freeC x c e)
 ·obtain ⟨e,n,ne,nf,d⟩:=I.pin p hp
  have nch:p.1 ∉ ch:=fun z=>(hch p.1 z).2.2.2 p hp rfl
  exact ⟨keep p.1 p.2 ne nf nch e n,free p.1 p.2 nch e n,ne,nf,d⟩
theorem Inv.un {t':Nat} (I:Inv X pins σ H s) (u:Un X.fs [] H H' s.heap h') (hok:HOk X.prog X.w H' h'):Inv X pins σ H' { s with heap:=h',toks:=t' }:=by
 obtain ⟨m,⟨o,es,ep,ho,r⟩,_⟩:=id I.loc
 obtain ⟨sl,hL⟩:=u.any ho I.free (by simp)
 exact I.step (g':=s.gens) (d':=s.drawn) (ch:=[]) (fun _ z=>nomatch z) (fun b o _ hb _ e n=>u.keep b o e n hb (by simp)) (fun b o _ hb _ e n=>u.slot b o e n hb (by simp)) (fun b o _ e n=>u.free b o e n (by simp)) (fun b o _ e=>u.there b o e (by simp)) u.tups u.frzs u.tbls (fun m' hm=>by
  obtain ⟨o',es',ep',ho',r'⟩:=hm
  rw [ho] at ho'; cases ho'
  exact ⟨_,es',ep',hL,r'⟩) hok I.bare
theorem Inv.call {g':Array GenState} {t':Nat} {d':Drawn} {ch:List Addr} (I:Inv X pins σ H s) (u:Un (frs X.stack) ch H H' s.heap h') (hok:HOk X.prog X.w H' h') (hg:AllBare g')
  (hch:∀ b ∈ ch,(b ∈ X.ex\/X.s_0.heap.objs.size<=b)/\b≠X.env.locals/\(∀ x c,X.env.cells.lookup x=some c->c≠b)/\∀ p ∈ X.pn++pins,p.1≠b) :
  Inv X pins σ H' { s with heap:=h',gens:=g',drawn:=d',toks:=t' }:=by
 obtain ⟨m,⟨o,es,ep,ho,r⟩,_⟩:=id I.loc
 obtain ⟨sl,hL⟩:=u.any ho I.free fun z=>(hch _ z).2.1 rfl
 exact I.step (ch:=ch) hch (fun b o hL hb hc e n=>u.keep b o e n (fun z=>(List.mem_cons.mp (I.stkSub b z)).elim hL hb) hc) (fun b o _ _ hc e n=>u.any e n hc) (fun b o hc e n=>u.free b o e n hc) (fun b o hc e=>u.there b o e hc) u.tups u.frzs u.tbls (fun m' hm=>by
  obtain ⟨o',es',ep',ho',r'⟩:=hm
  rw [ho] at ho'; cases ho'
  exact ⟨_,es',ep',hL,r'⟩) hok hg
theorem Inv.turned {t':Nat} {it:Addr} (I:Inv X pins σ H s) (k:∀ b o,b≠it->s.heap.get? b=some o->h'.get? b=some o) (hn:H it=none) (hL:it≠X.env.locals)
  (h1:it ∈ X.ex\/X.s_0.heap.objs.size<=it) (h2:∀ x c,X.env.cells.lookup x=some c->c≠it) (h3:∀ p ∈ X.pn++pins,p.1≠it):Inv X pins σ H { s with heap:=h',toks:=t' }:=by
 have nit:∀ b u,H b=some u->b≠it:=fun b u e z=>by rw [z,hn] at e; cases e
 refine I.step (g':=s.gens) (d':=s.drawn) (ch:=[it]) (fun b hb=>?_) (fun b o _ _ hc e _=>k b o (fun z=>hc (by simp [z])) e) (fun b o _ _ hc e _=>⟨o.slots,k b o (fun z=>hc (by simp [z])) e⟩) (fun _ _ _ _ n=>n)
  (fun b o hc e=>⟨o,k b o (fun z=>hc (by simp [z])) e⟩) (fun _ _ e=>e) (fun _ _ _ e=>e) (fun b ps e=>⟨#[],by rw [e]; simp⟩) (fun m hm=>?_) (fun b u e=>?_) I.bare
 ·have e:b=it:=by simpa using hb
  subst e
  exact ⟨h1,hL,h2,h3⟩
 ·obtain ⟨o,es,ep,ho,r⟩:=hm
  exact ⟨o,es,ep,k _ o (Ne.symm hL) ho,r⟩
 ·refine (I.hok b u e).stay (fun c v hc q=>k c v ?_ q) (fun _ q=>q) fun _ _ q=>q
  rcases hc with z | z
  ·rw [z]; exact nit b u e
  ·exact nit c _ z
theorem Inv.tok (I:Inv X pins σ H s) (t:Nat):Inv X pins σ H { s with toks:=t }:=I.un (h':=s.heap) (t':=t) Un.refl I.hok
theorem Inv.kept {t':Nat} (I:Inv X pins σ H s) (k:∀ b u,s.heap.get? b=some u->h'.get? b=some u):Inv X pins σ H { s with heap:=h',toks:=t' }:=I.un (Un.kept k) (I.hok.kept k)
theorem Inv.laid {a:Addr} {o:HO} {t':Nat} (I:Inv X pins σ H s) (k:∀ b u,s.heap.get? b=some u->h'.get? b=some u) (hp:s.heap.objs.size<=a) (new:ObjOk X.prog X.w (upd H a o) h' a o) :
  Inv X pins σ (upd H a o) { s with heap:=h',toks:=t' }:=I.un (Un.laid k hp (I.hok.fresh hp)) (I.hok.laid k hp new)
theorem Inv.write {x e:Addr} {o:HO} {t':Nat} (I:Inv X pins σ H s) (mu:Mut (H x)) (he:e=x\/H e=some (.own x)) (k:∀ b u,b≠e->s.heap.get? b=some u->h'.get? b=some u) (heo:∃ u,h'.get? e=some u)
  (new:ObjOk X.prog X.w (upd H x o) h' x o):Inv X pins σ (upd H x o) { s with heap:=h',toks:=t' }:=I.un (Un.write mu he k heo) (I.hok.write mu he k heo new)
theorem Inv.weak {σ':List (Option V)} (I:Inv X pins σ H s) (hl:σ'.length=σ.length) (w:∀ (i:Nat) v,σ'[i]?=some (some v)->σ[i]?=some (some v)):Inv X pins σ' H s :=
 ⟨I.ok,I.os,I.bare,I.base,let ⟨m,hn,hl'⟩:=I.loc; ⟨m,hn,fun i x v e1 e2 e3=>hl' i x v e1 (w i v e2) e3⟩,I.cell,I.free,I.freeC,I.pin,I.hok,hl.trans I.len⟩
theorem Inv.pins_of {pins':List (Addr×Obj)} (I:Inv X pins σ H s) (h:∀ p ∈ pins',s.heap.get? p.1=some p.2/\H p.1=none/\p.1≠X.env.locals/\p.1 ∉ X.fs/\∀ v,p.2.data≠.cell v):Inv X pins' σ H s :=
 ⟨I.ok,I.os,I.bare,I.base,I.loc,I.cell,I.free,I.freeC,fun p hp=>(List.mem_append.mp hp).elim (fun z=>I.pin p (List.mem_append_left _ z)) (h p),I.hok,I.len⟩
theorem nodup_ix {N:List Str} (hN:N.Nodup) {i j:Nat} {x:Str} (a:N[i]?=some x) (b:N[j]?=some x):i=j:=by
 obtain ⟨h1,e1⟩:=List.getElem?_eq_some_iff.mp a
 obtain ⟨h2,e2⟩:=List.getElem?_eq_some_iff.mp b
 exact (List.getElem_inj hN).mp (e1.trans e2.symm)
theorem store_ok2 {M:Model} {A:Around} {E:Value->Shared->Prop} {i:Nat} {x:Str} {v:V} {u:Value} {Q:Unit->Shared->Prop} (I:Inv X pins σ H s) (hN:X.N.Nodup) (hi:X.N[i]?=some x) (hx:Loc X.env.scope x) (r:RelV v u)
  (h:∀ s',Inv X pins (σ.set i (some v)) H s'->(∃ a,Heap.SameBut a s.heap s'.heap/\(a=X.env.locals\/X.env.cells.lookup x=some a))->Q () s') (hf:X.fn x=true\/X.env.scope.names.lookup x=some .local:=by first | exact .inl rfl | exact .inr rfl | assumption):wpAny M A (storeName X.env x u) Q E s:=by
 obtain ⟨m,hn,hl⟩:=id I.loc
 have hcls:(X.env.scope.kind == .class || (X.env.scope.kind == .module && X.env.locals != X.env.globals))=false:=by rw [I.ok.kind]; rfl
 have hiσ:i < σ.length:=by rw [I.len]; exact (List.getElem?_eq_some_iff.mp hi).1
 have cne:=I.cne
 have tracked:∀ {a:Addr} {h':Heap},(∃ o,s.heap.get? a=some o/\H a=none)->Heap.SameBut a s.heap h'->HOk X.prog X.w H h':=fun {a h'} ha hs b ob e=>by
  obtain ⟨_,_,hfree⟩:=ha
  refine (I.hok b ob e).stay (fun c w' hc q=>(hs.2 c ?_).trans q) (fun _ q=>q) fun _ _ q=>q
  rintro rfl
  rcases hc with rfl | hc
  ·rw [hfree] at e; cases e
  ·rw [hfree] at hc; cases hc
 rcases hx with hk | hk
 ·refine wpAny_storeName_local hk hn (fun h' hn' hs=>?_) hcls
  obtain ⟨oL,_,_,hoL,_⟩:=id hn
  refine h _ ⟨I.ok,I.os,I.bare,⟨fun b o e n hb hx=>?_,fun b o e n hb hx=>?_,I.base.free,fun b o e hx=>?_,I.base.tups,I.base.frzs,I.base.tbls⟩,⟨_,hn',fun j y v' e1 e2 e3=>?_⟩,fun y c e=>?_,I.free,I.freeC,fun p hp=>?_,tracked ⟨oL,hoL,I.free⟩ hs,by simpa using I.len⟩ ⟨_,hs,.inl rfl⟩
  ·exact (hs.2 b (Nat.ne_of_lt (Nat.lt_of_lt_of_le (Heap.lt_size e) I.ok.above))).trans (I.base.keep b o e n hb hx)
  ·obtain ⟨sl,e1⟩:=I.base.slot b o e n hb hx
   exact ⟨sl,(hs.2 b (Nat.ne_of_lt (Nat.lt_of_lt_of_le (Heap.lt_size e) I.ok.above))).trans e1⟩
  ·obtain ⟨o',e1⟩:=I.base.there b o e hx
   exact ⟨o',(hs.2 b (Nat.ne_of_lt (Nat.lt_of_lt_of_le (Heap.lt_size e) I.ok.above))).trans e1⟩
  ·by_cases hj:j=i
   ·subst hj
    rw [hi] at e1; cases e1
    rw [List.getElem?_set_self hiσ] at e2
    cases e2
    exact ⟨u,r,.inl ⟨hk,by simp⟩⟩
   ·rw [List.getElem?_set_ne (Ne.symm hj)] at e2
    obtain ⟨u',r',q⟩:=hl j y v' e1 e2 e3
    refine ⟨u',r',?_⟩
    rcases q with ⟨k,e⟩ | ⟨k,c,e,z⟩
    ·refine .inl ⟨k,?_⟩
     have:y≠x:=fun e=>hj (nodup_ix hN e1 (e ▸ hi))
     simp [this,e]
    ·exact .inr ⟨k,c,e,z.sameBut hs (cne y c e)⟩
  ·obtain ⟨w',z⟩:=I.cell y c e
   exact ⟨w',z.sameBut hs (cne y c e)⟩
  ·obtain ⟨e,n,ne,nf,d⟩:=I.pin p hp
   exact ⟨(hs.2 p.1 ne).trans e,n,ne,nf,d⟩
 ·have hfn:X.fn x=true:=by
   rcases hf with z | z
   ·exact z
   ·rw [z] at hk; cases hk
  obtain ⟨c,hc⟩:=I.ok.has x (.inl hk)
  obtain ⟨w',z⟩:=I.cell x c hc
  refine wpAny_storeName_cell I.ok.kind hk hc z (fun h' hc' hs=>?_)
  obtain ⟨oc,hoc,hocd⟩:=id z
  refine h { s with heap:=h' } ⟨I.ok,I.os,I.bare,⟨fun b o e n hb hx=>?_,fun b o e n hb hx=>?_,I.base.free,fun b o e hx=>?_,I.base.tups,I.base.frzs,I.base.tbls⟩,⟨m,hn.sameBut hs (Ne.symm (cne x c hc)),fun j y v' e1 e2 e3=>?_⟩,fun y c' e=>?_,I.free,I.freeC,fun p hp=>?_,tracked ⟨oc,hoc,I.freeC x c hc⟩ hs,by simpa using I.len⟩ ⟨c,hs,.inr hc⟩
  ·exact (hs.2 b (Nat.ne_of_lt (Nat.lt_of_lt_of_le (Heap.lt_size e) (I.ok.cab x c hfn hc)))).trans (I.base.keep b o e n hb hx)
  ·obtain ⟨sl,e1⟩:=I.base.slot b o e n hb hx
   exact ⟨sl,(hs.2 b (Nat.ne_of_lt (Nat.lt_of_lt_of_le (Heap.lt_size e) (I.ok.cab x c hfn hc)))).trans e1⟩
  ·obtain ⟨o',e1⟩:=I.base.there b o e hx
   exact ⟨o',(hs.2 b (Nat.ne_of_lt (Nat.lt_of_lt_of_le (Heap.lt_size e) (I.ok.cab x c hfn hc)))).trans e1⟩
  ·by_cases hj:j=i
   ·subst hj
    rw [hi] at e1; cases e1
    rw [List.getElem?_set_self hiσ] at e2
    cases e2
    exact ⟨u,r,.inr ⟨.inl hk,c,hc,hc'⟩⟩
   ·rw [List.getElem?_set_ne (Ne.symm hj)] at e2
    obtain ⟨u',r',q⟩:=hl j y v' e1 e2 e3
    refine ⟨u',r',?_⟩
    rcases q with q | ⟨k,c',e,z'⟩
    ·exact .inl q
    ·refine .inr ⟨k,c',e,z'.sameBut hs ?_⟩
     rintro rfl
     exact hj (nodup_ix hN e1 (I.ok.inj _ _ _ e hc ▸ hi))
  ·by_cases hcc:c'=c
   ·subst hcc; exact ⟨_,hc'⟩
   ·obtain ⟨w2,z2⟩:=I.cell y c' e
    exact ⟨w2,z2.sameBut hs hcc⟩
  ·obtain ⟨e,n,ne,nf,d⟩:=I.pin p hp
   refine ⟨(hs.2 p.1 ?_).trans e,n,ne,nf,d⟩
   intro q
   rw [q,hoc] at e
   have q':oc=p.2:=Option.some.inj e
   exact d w' (by rw [<- q']; exact hocd)
theorem store_ok {M:Model} {A:Around} {E:Value->Shared->Prop} {i:Nat} {x:Str} {v:V} {u:Value} {Q:Unit->Shared->Prop} (I:Inv X pins σ H s) (hN:X.N.Nodup) (hi:X.N[i]?=some x) (hx:Loc X.env.scope x) (r:RelV v u)
  (h:∀ s',Inv X pins (σ.set i (some v)) H s'->Q () s') (hf:X.fn x=true\/X.env.scope.names.lookup x=some .local:=by first | exact .inl rfl | exact .inr rfl | assumption):wpAny M A (storeName X.env x u) Q E s :=
 store_ok2 I hN hi hx r (fun s' I' _=>h s' I') hf
theorem Inv.call' {s':Shared} {ch:List Addr} (I:Inv X pins σ H s) (ho:s'.os=s.os) (u:Un (frs X.stack) ch H H' s.heap s'.heap) (hok:HOk X.prog X.w H' s'.heap) (hg:AllBare s'.gens)
  (hch:∀ b ∈ ch,(b ∈ X.ex\/X.s_0.heap.objs.size<=b)/\b≠X.env.locals/\(∀ x c,X.env.cells.lookup x=some c->c≠b)/\∀ p ∈ X.pn++pins,p.1≠b):Inv X pins σ H' s':=by
 obtain ⟨h',g',d',t',o'⟩:=s'
 have e:o'=s.os:=ho
 subst e
 exact I.call (g':=g') (t':=t') (d':=d') u hok hg hch
end
abbrev XK:=Value->Option Addr->Hp->Prop
abbrev St:=List (Option V)
abbrev VK:=V->Hp->Prop
abbrev TE:=St->Hp->VK->Prop
abbrev TT:=St->Hp->(Bool->Hp->Prop)->Prop
abbrev TA:=St->Hp->(List V->Hp->Prop)->Prop
structure Ends where
 nx:St->Hp->Prop
 rt:VK
 bk:St->Hp->Prop:=fun _ _=>False
 ct:St->Hp->Prop:=fun _ _=>False
abbrev TS:=Ends->St->Hp->Prop
def EP (X:Cx) (pins:List (Addr×Obj)) (σ:St) (Q:VK) (u:Value) (s':Shared):Prop:=∃ v H',Inv X pins σ H' s'/\RelV v u/\Q v H'
def TP (X:Cx) (pins:List (Addr×Obj)) (σ:St) (Q:Bool->Hp->Prop) (b:Bool) (s':Shared):Prop:=∃ H',Inv X pins σ H' s'/\Q b H'
def AP (X:Cx) (pins:List (Addr×Obj)) (σ:St) (Q:List V->Hp->Prop) (us:List Value) (s':Shared):Prop:=∃ vs H',Inv X pins σ H' s'/\Vals vs us/\Q vs H'
def SP (X:Cx) (pins:List (Addr×Obj)) (D:Ends) (f:Flow) (s':Shared):Prop :=
 match f with
 | .next=>∃ σ' H',Inv X pins σ' H' s'/\D.nx σ' H'
 | .brk=>∃ σ' H',Inv X pins σ' H' s'/\D.bk σ' H'
 | .cont=>∃ σ' H',Inv X pins σ' H' s'/\D.ct σ' H'
 | .ret u=>∃ v σ' H',Inv X pins σ' H' s'/\RelV v u/\D.rt v H'
def PE (X:Cx) (e:Expr) (t:TE):Prop :=
 ∀ (pins:List (Addr×Obj)) (s:Shared) (σ:St) (H:Hp) (Q:VK),Inv X pins σ H s->t σ H Q->wpAny (model X.prog X.w) X.A (eval e X.env) (EP X pins σ Q) X.xe s
def PT (X:Cx) (e:Expr) (t:TT):Prop :=
 ∀ (pins:List (Addr×Obj)) (s:Shared) (σ:St) (H:Hp) (Q:Bool->Hp->Prop),Inv X pins σ H s->t σ H Q->wpAny (model X.prog X.w) X.A (isTrue e X.env (eval e X.env)) (TP X pins σ Q) X.xe s
def PW (X:Cx) (e:Expr) (t:TT):Prop :=
 ∀ (whole:Sem Value) (pins:List (Addr×Obj)) (s:Shared) (σ:St) (H:Hp) (Q:Bool->Hp->Prop),Inv X pins σ H s->t σ H Q->wpAny (model X.prog X.w) X.A (isTrue e X.env whole) (TP X pins σ Q) X.xe s
theorem PW.pt {X:Cx} {e:Expr} {t:TT} (h:PW X e t):PT X e t:=h _
def PA (X:Cx) (es:List Expr) (t:TA):Prop :=
 ∀ (pos:Pos) (pins:List (Addr×Obj)) (s:Shared) (σ:St) (H:Hp) (Q:List V->Hp->Prop),Inv X pins σ H s->t σ H Q->wpAny (model X.prog X.w) X.A (spliced (backTo pos (starEach es X.env))) (AP X pins σ Q) X.xe s
def PS (X:Cx) (st:Stmt) (t:TS):Prop :=
 ∀ (pins:List (Addr×Obj)) (s:Shared) (σ:St) (H:Hp) (D:Ends),Inv X pins σ H s->t D σ H->wpAny (model X.prog X.w) X.A (exec st X.env) (SP X pins D) X.xe s
def PSs (X:Cx) (st:List Stmt) (t:TS):Prop :=
 ∀ (pins:List (Addr×Obj)) (s:Shared) (σ:St) (H:Hp) (D:Ends),Inv X pins σ H s->t D σ H->wpAny (model X.prog X.w) X.A (execs st X.env) (SP X pins D) X.xe s
theorem thn {α:Type} {t:Sem α} {Q Q':α->Shared->Prop} {M:Model} {A:Around} {E:Value->Shared->Prop} {s:Shared} (h:wpAny M A t Q E s) (hQ:∀ a s,Q a s->Q' a s):wpAny M A t Q' E s:=wpAny_mono h hQ fun _ _ x=>x
end L2
namespace L2
open PySem PySem.Spec PyProof.Rows
section
variable {X:Cx}
theorem bin {a b:Expr} {ta tb:TE} (ha:PE X a ta) (hb:PE X b tb) {pins:List (Addr×Obj)} {s:Shared} {σ:St} {H:Hp} {R:V->V->Hp->Prop} (I:Inv X pins σ H s) (h:ta σ H fun x H1=>tb σ H1 fun y H2=>R x y H2)
  {α:Type} {Q:α->Shared->Prop} {f:Value->Value->Sem α}
  (hf:∀ v u s2 x y H2,Inv X pins σ H2 s2->RelV x v->RelV y u->R x y H2->wpAny (model X.prog X.w) X.A (f v u) Q X.xe s2) :
  wpAny (model X.prog X.w) X.A (eval a X.env) (fun v s₁=>wpAny (model X.prog X.w) X.A (eval b X.env) (fun u s₂=>wpAny (model X.prog X.w) X.A (f v u) Q X.xe s₂) X.xe s₁) X.xe s:=by
 refine thn (ha pins s σ H _ I h) fun v s1 ⟨x,H1,I1,r1,q1⟩=>?_
 refine thn (hb pins s1 σ H1 _ I1 q1) fun u s2 ⟨y,H2,I2,r2,q2⟩=>?_
 exact hf v u s2 x y H2 I2 r1 r2 q2
def tVar (i:Nat):TE:=fun σ H Q=>∃ v,σ[i]?=some (some v)/\Q v H
def tC (v:V):TE:=fun _ H Q=>Q v H
theorem pe_var {i:Nat} {x:Str} {pos:Pos} (hN:X.N[i]?=some x) (hv:Vis X.env.scope x) (hd:(x == ("__debug__" : Str))=false:=by decide) (hcd:(x == ("__classdict__" : Str))=false:=by decide):PE X (.Name x pos) (tVar i):=by
 intro pins s σ H Q I h
 obtain ⟨v,e,h⟩:=h
 obtain ⟨m,hn,hl⟩:=I.loc
 obtain ⟨u,r,l⟩:=hl i x v hN e hv
 have fin:EP X pins σ Q u s:=⟨v,H,I,r,h⟩
 rcases l with ⟨hk,hm⟩ | ⟨hk,c,hc,hcell⟩
 ·exact wpAny_Name (wpAny_loadName_local I.ok.kind hk hn hm fin) hd
 ·rcases hk with hk | hk
  ·exact wpAny_Name (wpAny_loadName_cell I.ok.kind hk hc hcell fin) hd
  ·exact wpAny_Name (wpAny_loadName_free I.ok.kind hk hc hcell fin hcd) hd
theorem pe_int {i j pos}:PE X (.Constant (.int i) j pos) (tC (.int i)):=fun _ _ _ H _ I h=>wpAny_Constant_int ⟨.int i,H,I.tok _,⟨_,rfl⟩,h⟩
theorem pe_bl {b j pos}:PE X (.Constant (.bool b) j pos) (tC (.bl b)):=fun _ _ _ H _ I h=>Constant_bool ⟨.bl b,H,I,rfl,h⟩
theorem pe_non {j pos}:PE X (.Constant .none j pos) (tC .non):=fun _ _ _ H _ I h=>Constant_none ⟨.non,H,I,rfl,h⟩
theorem pe_str {x j pos}:PE X (.Constant (.str x) j pos) (tC (.str x)):=fun _ _ _ H _ I h=>Calls.Constant_str ⟨.str x,H,I.tok _,⟨_,rfl⟩,h⟩
def Gl (X:Cx) (x:Str):Prop:=X.env.kindOf x=some .globalImplicit
theorem ld_glob {E:Value->Shared->Prop} {pins:List (Addr×Obj)} {s:Shared} {σ:St} {H:Hp} {x:Str} {u:Value} {pos:Pos} {Q:Value->Shared->Prop} (I:Inv X pins σ H s) (hg:Gl X x) (hm:X.mg x=some u) (h:Q u s)
  (hd:(x == ("__debug__" : Str))=false:=by decide):wpAny (model X.prog X.w) X.A (eval (.Name x pos) X.env) Q E s :=
 Calls.Name_function_global I.ok.kind hg (Calls.loadGlobal_global (by rw [I.ok.glob]; exact I.mod.glob.keeps I.bk) hm h) hd
theorem ld_blt {E:Value->Shared->Prop} {pins:List (Addr×Obj)} {s:Shared} {σ:St} {H:Hp} {x:Str} {u:Value} {pos:Pos} {Q:Value->Shared->Prop} (I:Inv X pins σ H s) (hg:Gl X x) (hm:X.mg x=none) (hv:bootBuiltins x=some u) (h:Q u s)
  (hn:x ≠ "__name__" := by decide) (hd:(x == ("__debug__" : Str))=false:=by decide):wpAny (model X.prog X.w) X.A (eval (.Name x pos) X.env) Q E s:=by
 obtain ⟨mb,h1,h2⟩:=I.mod.blt
 exact Calls.Name_function_global I.ok.kind hg (Calls.loadGlobal_builtin (by rw [I.ok.glob]; exact I.mod.glob.keeps I.bk) hm (by rw [I.ok.blt]; exact h1.keeps I.bk) ((h2 x hn).trans hv) h) hd
theorem pe_glob {x:Str} {v:V} {u:Value} {pos:Pos} (hg:Gl X x) (hm:X.mg x=some u) (r:RelV v u) (hd:(x == ("__debug__" : Str))=false:=by decide):PE X (.Name x pos) (tC v) :=
 fun _ _ _ H _ I h=>ld_glob I hg hm ⟨v,H,I,r,h⟩ hd
variable {a b:Expr} {ta tb:TE} {pos:Pos}
def PC (X:Cx) (op:CmpOp) (a b:Expr) (t:TE):Prop :=
 ∀ (pins:List (Addr×Obj)) (s:Shared) (σ:St) (H:Hp) (Q:VK),Inv X pins σ H s->t σ H Q ->
  wpAny (model X.prog X.w) X.A (eval a X.env) (fun v s₁=>wpAny (model X.prog X.w) X.A (eval b X.env) (fun u s₂=>wpAny (model X.prog X.w) X.A (compareOp op v u) (EP X pins σ Q) X.xe s₂) X.xe s₁) X.xe s
def tB (t:TE):TT:=fun σ H Q=>t σ H fun x H1=>∃ c,x=.bl c/\Q c H1
theorem pt_cmp {op:CmpOp} {t:TE} (h:PC X op a b t) (h1:behindInMarks op b=false:=by first | exact nobehind _ (by decide) (by decide) | rfl):PT X (.Compare a [op] [b] pos) (tB t):=by
 intro pins s σ H Q I hw
 refine wpAny_isTrue_Compare1 (thn (h pins s σ H _ I hw) fun v s1 h1=>thn h1 fun u s2 h2=>thn h2 fun c s3 ⟨x,H1,I1,r1,q1⟩=>?_) h1
 obtain ⟨d,rfl,q⟩:=q1
 cases r1
 exact wpAny_truthy_bool ⟨H1,I1,q⟩
theorem pt_val {e:Expr} {t:TE} (h:PE X e t) (he:∀ whole,isTrue e X.env whole=(do let v <- whole; standAt e.pos; holding [v] (truthy v)):=by intro _; rfl):PT X e (tB t):=by
 intro pins s σ H Q I hw
 refine isTrue_plain (thn (h pins s σ H _ I hw) fun v s1 ⟨x,H1,I1,r1,q1⟩=>?_) (he _)
 obtain ⟨d,rfl,q⟩:=q1
 cases r1
 exact wpAny_truthy_bool ⟨H1,I1,q⟩
variable {tA tB':TT} {rest:List Expr}
def tAnd (t u:TT):TT:=fun σ H Q=>t σ H fun c H1=>if c=true then u σ H1 Q else Q false H1
def tOr (t u:TT):TT:=fun σ H Q=>t σ H fun c H1=>if c=true then Q true H1 else u σ H1 Q
def tNot (t:TT):TT:=fun σ H Q=>t σ H fun c H1=>Q (!c) H1
theorem pw_and1 (ha:PT X a tA):PW X (.BoolOp .And [a] pos) tA:=by
 intro wh pins s σ H Q I h
 refine isTrue_and (thn (ha pins s σ H Q I h) fun c s1 e=>?_)
 cases c with
 | true=>exact isTrue_and_nil e
 | false=>exact e
theorem pw_or1 (ha:PT X a tA):PW X (.BoolOp .Or [a] pos) tA:=by
 intro wh pins s σ H Q I h
 refine isTrue_or (thn (ha pins s σ H Q I h) fun c s1 e=>?_)
 cases c with
 | false=>exact isTrue_or_nil e
 | true=>exact e
theorem pw_and (ha:PT X a tA) (hb:PW X (.BoolOp .And (b :: rest) pos) tB'):PW X (.BoolOp .And (a :: b :: rest) pos) (tAnd tA tB'):=by
 intro wh pins s σ H Q I h
 refine isTrue_and (thn (ha pins s σ H _ I h) fun c s1 ⟨H1,I1,q1⟩=>?_)
 cases c with
 | true=>exact hb wh pins s1 σ H1 Q I1 q1
 | false=>exact ⟨H1,I1,q1⟩
theorem pw_or (ha:PT X a tA) (hb:PW X (.BoolOp .Or (b :: rest) pos) tB'):PW X (.BoolOp .Or (a :: b :: rest) pos) (tOr tA tB'):=by
 intro wh pins s σ H Q I h
 refine isTrue_or (thn (ha pins s σ H _ I h) fun c s1 ⟨H1,I1,q1⟩=>?_)
 cases c with
 | true=>exact ⟨H1,I1,q1⟩
 | false=>exact hb wh pins s1 σ H1 Q I1 q1
theorem pt_not (ha:PT X a tA):PT X (.UnaryOp .Not a pos) (tNot tA):=by
 intro pins s σ H Q I h
 exact isTrue_not (ha pins s σ H (fun c H1=>Q (!c) H1) I h)
def tOrV (ta tb:TE):TE:=fun σ H Q=>ta σ H fun x H1=>∃ c,x=.bl c/\if c=true then Q (.bl true) H1 else tb σ H1 Q
theorem pe_one {op} {t:TE} (h:PE X a t):PE X (.BoolOp op [a] pos) t:=fun pins s σ H Q I hw=>BoolOp_one (h pins s σ H Q I hw)
theorem pe_or (ha:PE X a ta) (hb:PE X (.BoolOp .Or (b :: rest) pos) tb):PE X (.BoolOp .Or (a :: b :: rest) pos) (tOrV ta tb):=by
 intro pins s σ H Q I h
 refine BoolOp_or (thn (ha pins s σ H _ I h) fun v s1 ⟨x,H1,I1,r1,q1⟩=>?_)
 obtain ⟨c,rfl,q1⟩:=q1
 cases r1
 refine wpAny_truthy_bool ?_
 cases c with
 | false=>exact hb pins s1 σ H1 Q I1 q1
 | true=>exact ⟨.bl true,H1,I1,rfl,q1⟩
def tIf (t:TT) (ta tb:TE):TE:=fun σ H Q=>t σ H fun c H1=>if c=true then ta σ H1 Q else tb σ H1 Q
theorem pe_ifExp {c:Expr} (hc:PT X c tA) (ha:PE X a ta) (hb:PE X b tb):PE X (.IfExp c a b pos) (tIf tA ta tb):=by
 intro pins s σ H Q I h
 refine wpAny_IfExp (thn (hc pins s σ H _ I h) fun d s1 ⟨H1,I1,q1⟩=>?_)
 cases d with
 | true=>exact ha pins s1 σ H1 Q I1 q1
 | false=>exact hb pins s1 σ H1 Q I1 q1
end
end L2
namespace L2
open PySem PySem.Spec PyProof.Rows
def SqL (K:PySem.W.Frag) (H:Hp) (a:Addr) (xs:List V):Prop :=
 Rd H a (.lst xs) \/
  ∃ (o:Obj) (its:Array Value) (n:Nat),K.lookup a=some o/\o.cls=.type "list" /\ o.dict=none/\o.data=.seq its n/\its.size<=sizeLine/\Vals xs its.toList
def SqT (K:PySem.W.Frag) (H:Hp) (a:Addr) (xs:List V):Prop :=
 Rd H a (.tup xs) \/
  ∃ (o:Obj) (its:Array Value) (n:Nat),K.lookup a=some o/\o.cls=.type "tuple" /\ o.data=.seq its n/\its.size<=sizeLine/\Vals xs its.toList
def absV:Value->Option V
 | .none=>some .non
 | .bool b=>some (.bl b)
 | .int i _=>some (.int i)
 | .str x _=>some (.str x)
 | .bytes b _=>some (.byt b)
 | .float b _=>some (.flt b)
 | .ref a=>some (.ref a)
 | .type n=>some (.ty n)
 | _=>none
theorem RelV.abs {x:V} {u:Value} (r:RelV x u):absV u=some x:=by
 cases x with
 | non=>cases r; rfl
 | bl _=>cases r; rfl
 | int _=>obtain ⟨t,rfl⟩:=r; rfl
 | str _=>obtain ⟨t,rfl⟩:=r; rfl
 | byt _=>obtain ⟨t,rfl⟩:=r; rfl
 | flt _=>obtain ⟨t,rfl⟩:=r; rfl
 | ref _=>cases r; rfl
 | ty _=>cases r; rfl
theorem RelV.inj {x y:V} {u:Value} (r:RelV x u) (q:RelV y u):x=y:=Option.some.inj (r.abs.symm.trans q.abs)
theorem Vals.inj:∀ {xs ys:List V} {us:List Value},Vals xs us->Vals ys us->xs=ys
 | _,_,_,.nil,.nil=>rfl
 | _,_,_,.cons r t,.cons r' t'=>by rw [r.inj r',Vals.inj t t']
section
variable {X:Cx} {pins:List (Addr×Obj)} {σ:St} {H:Hp} {s:Shared} {a:Addr} {xs ys:List V}
theorem SqL.of {K:PySem.W.Frag} (h:H a=some (.lst xs)):SqL K H a xs:=.inl (.inl h)
theorem SqT.of {K:PySem.W.Frag} (h:H a=some (.tup xs)):SqT K H a xs:=.inl (.inl h)
theorem Inv.list (I:Inv X pins σ H s) (h:SqL X.K H a xs):∃ its:List Value,Vals xs its/\PlainL s.heap a its.toArray/\xs.length<=sizeLine:=by
 rcases h with h | ⟨o,its,n,hk,hc,hd,hs,hz,r⟩
 ·obtain ⟨z,its,n,r,e⟩:=h.ok I.hok
  exact ⟨its,r,⟨_,n,e,rfl,rfl,rfl⟩,z⟩
 ·refine ⟨its.toList,r,⟨o,n,I.kIn a o hk,hc,hd,by simpa using hs⟩,?_⟩
  have e:=r.length
  simp only [Array.length_toList] at e
  omega
theorem Inv.tuple (I:Inv X pins σ H s) (h:SqT X.K H a xs):∃ its:List Value,Vals xs its/\IsTup s.heap a its.toArray/\xs.length<=sizeLine:=by
 rcases h with h | ⟨o,its,n,hk,hc,hs,hz,r⟩
 ·obtain ⟨z,its,r,p⟩:=h.ok I.hok
  exact ⟨its,r,p,z⟩
 ·refine ⟨its.toList,r,⟨o,I.kIn a o hk,hc,n,by simpa using hs⟩,?_⟩
  have e:=r.length
  simp only [Array.length_toList] at e
  omega
theorem Inv.list_inj (I:Inv X pins σ H s) (h:SqL X.K H a xs) (h':SqL X.K H a ys):xs=ys:=by
 obtain ⟨its,r,⟨o,n,e,_,_,d⟩,_⟩:=I.list h
 obtain ⟨its',r',⟨o',n',e',_,_,d'⟩,_⟩:=I.list h'
 rw [e] at e'; cases e'
 rw [d] at d'
 injection d' with d1 _
 have:its=its':=by simpa using congrArg Array.toList d1
 subst this
 exact r.inj r'
end
abbrev Cx.wish (X:Cx) (E:Value->Shared->Prop):Cx:={ X with xe:=E }
abbrev Cx.nox (X:Cx):Cx:=X.wish fun _ _=>False
theorem Cx.Ok.wish {X:Cx} (ok:X.Ok) (E:Value->Shared->Prop):(X.wish E).Ok :=
 ⟨ok.mod,ok.kind,ok.glob,ok.blt,ok.above,ok.inj,ok.has,ok.cab,ok.hd,ok.frames,ok.stk,ok.exf,ok.bs,ok.bsz,ok.noex,ok.exfs,ok.funs,ok.frf⟩
theorem Cx.Ok.unwish {X:Cx} {E:Value->Shared->Prop} (ok:(X.wish E).Ok):X.Ok :=
 ⟨ok.mod,ok.kind,ok.glob,ok.blt,ok.above,ok.inj,ok.has,ok.cab,ok.hd,ok.frames,ok.stk,ok.exf,ok.bs,ok.bsz,ok.noex,ok.exfs,ok.funs,ok.frf⟩
section
variable {X:Cx} {pins:List (Addr×Obj)} {σ:St} {H:Hp} {s:Shared} {E:Value->Shared->Prop}
theorem Inv.wish (I:Inv X pins σ H s) (E:Value->Shared->Prop):Inv (X.wish E) pins σ H s:=⟨I.ok.wish E,I.os,I.bare,I.base,I.loc,I.cell,I.free,I.freeC,I.pin,I.hok,I.len⟩
theorem Inv.unwish (I:Inv (X.wish E) pins σ H s):Inv X pins σ H s:=⟨I.ok.unwish,I.os,I.bare,I.base,I.loc,I.cell,I.free,I.freeC,I.pin,I.hok,I.len⟩
theorem SP.unwish {D:Ends} {f:Flow} {s':Shared} (h:SP (X.wish E) pins D f s'):SP X pins D f s':=by
 cases f with
 | next=>obtain ⟨σ',H',I,q⟩:=h; exact ⟨σ',H',I.unwish,q⟩
 | brk=>obtain ⟨σ',H',I,q⟩:=h; exact ⟨σ',H',I.unwish,q⟩
 | cont=>obtain ⟨σ',H',I,q⟩:=h; exact ⟨σ',H',I.unwish,q⟩
 | ret u=>obtain ⟨v,σ',H',I,r,q⟩:=h; exact ⟨v,σ',H',I.unwish,r,q⟩
theorem PSs.nox {st:List Stmt} {t:TS} (h:PSs X.nox st t):PSs X st t:=fun pins s σ H D I hw =>
 wpAny_mono (h pins s σ H D (I.wish _) hw) (fun _ _ q=>q.unwish) fun _ _ z=>False.elim z
end
section
variable {X:Cx} {st:Stmt} {rest:List Stmt} {t u:TS} {e:Expr} {te:TE} {pos:Pos}
def tNext:TS:=fun D σ H=>D.nx σ H
def tSeq (t u:TS):TS:=fun D σ H=>t { D with nx:=u D } σ H
theorem pss_nil:PSs X [] tNext:=fun _ _ σ H _ I h=>wpAny_execs_nil ⟨σ,H,I,h⟩
theorem pss_cons (h1:PS X st t) (h2:PSs X rest u):PSs X (st :: rest) (tSeq t u):=by
 intro pins s σ H D I h
 refine wpAny_execs_cons (thn (h1 pins s σ H { D with nx:=u D } I h) fun f s1 q=>?_)
 cases f with
 | next =>
  obtain ⟨σ',H',I',q⟩:=q
  exact h2 pins s1 σ' H' D I' q
 | ret v=>exact q
 | brk=>exact q
 | cont=>exact q
theorem pss_one (h1:PS X st t):PSs X [st] t:=by
 intro pins s σ H D I h
 refine wpAny_execs_cons (thn (h1 pins s σ H D I h) fun f s1 q=>?_)
 cases f with
 | next=>exact wpAny_execs_nil q
 | ret v=>exact q
 | brk=>exact q
 | cont=>exact q
theorem Inv.quiet {pins:List (Addr×Obj)} {σ:St} {H:Hp} {s:Shared} (I:Inv X pins σ H s):interactive X.env=false:=by simp [interactive,I.ok.kind]
def tDrop (te:TE):TS:=fun D σ H=>te σ H fun _ H1=>D.nx σ H1
theorem ps_expr (he:PE X e te) (hs:swapsWith e none pos.line X.env=pure false:=by rfl):PS X (.Expr e pos) (tDrop te):=by
 intro pins s σ H D I h
 exact wpAny_Expr_any (thn (he pins s σ H _ I h) fun v s1 ⟨x,H1,I1,r1,q1⟩=>⟨σ,H1,I1,q1⟩) I.quiet hs
def tRet (te:TE):TS:=fun D σ H=>te σ H D.rt
theorem ps_ret (he:PE X e te):PS X (.Return (some e) pos) (tRet te):=by
 intro pins s σ H D I h
 exact wpAny_Return_some (thn (he pins s σ H _ I h) fun v s1 ⟨x,H1,I1,r1,q1⟩=>⟨x,σ,H1,I1,r1,q1⟩)
def tRetN:TS:=fun D _ H=>D.rt .non H
theorem ps_retN:PS X (.Return none pos) tRetN:=fun _ _ σ H _ I h=>wpAny_Return_none ⟨.non,σ,H,I,rfl,h⟩
def tIfS (c:TT) (t u:TS):TS:=fun D σ H=>c σ H fun b H1=>if b=true then t D σ H1 else u D σ H1
theorem ps_if {c:Expr} {a b:List Stmt} {tc:TT} (hc:PT X c tc) (ha:PSs X a t) (hb:PSs X b u):PS X (.If c a b pos) (tIfS tc t u):=by
 intro pins s σ H D I h
 refine wpAny_If (thn (hc pins s σ H _ I h) fun d s1 ⟨H1,I1,q1⟩=>?_)
 cases d with
 | true=>exact ha pins s1 σ H1 D I1 q1
 | false=>exact hb pins s1 σ H1 D I1 q1
end
abbrev TG:=V->St->Hp->(St->Hp->Prop)->Prop
abbrev TGs:=List V->St->Hp->(St->Hp->Prop)->Prop
def PG (X:Cx) (target:Expr) (t:TG):Prop :=
 ∀ (pins:List (Addr×Obj)) (s:Shared) (σ:St) (H:Hp) (v:V) (u:Value) (Q:St->Hp->Prop),Inv X pins σ H s->RelV v u->t v σ H Q ->
  wpAny (model X.prog X.w) X.A (assign target X.env u) (fun _ s'=>∃ σ' H',Inv X pins σ' H' s'/\Q σ' H') X.xe s
def PGs (X:Cx) (ts:List Expr) (t:TGs):Prop :=
 ∀ (pins:List (Addr×Obj)) (s:Shared) (σ:St) (H:Hp) (vs:List V) (us:List Value) (Q:St->Hp->Prop),Inv X pins σ H s->Vals vs us->t vs σ H Q ->
  wpAny (model X.prog X.w) X.A (assignInOrder ((assignEach ts X.env).map (·.2)) us) (fun _ s'=>∃ σ' H',Inv X pins σ' H' s'/\Q σ' H') X.xe s
section
variable {X:Cx} {pos:Pos}
def gName (i:Nat):TG:=fun v σ H Q=>Q (σ.set i (some v)) H
theorem pg_name {i:Nat} {x:Str} (hN:X.N.Nodup) (hi:X.N[i]?=some x) (hx:Loc X.env.scope x) (hf:X.fn x=true\/X.env.scope.names.lookup x=some .local:=by first | exact .inl rfl | exact .inr rfl | assumption):PG X (.Name x pos) (gName i):=by
 intro pins s σ H v u Q I r h
 exact wpAny_assign_Name (store_ok I hN hi hx r (fun s' I'=>⟨_,H,I',h⟩) hf)
def gNil:TGs:=fun vs σ H Q=>vs=[]/\Q σ H
def gCons (t:TG) (u:TGs):TGs:=fun vs σ H Q=>∃ v r,vs=v :: r/\t v σ H fun σ' H'=>u r σ' H' Q
theorem pgs_nil:PGs X [] gNil:=by
 intro pins s σ H vs us Q I r h
 obtain ⟨e,h⟩:=h
 subst e
 cases r
 exact assignInOrder_nil ⟨σ,H,I,h⟩
theorem pgs_cons {e:Expr} {es:List Expr} {t:TG} {u:TGs} (h1:PG X e t) (h2:PGs X es u)
  (hs:(assignEach (e :: es) X.env).map (·.2)=assign e X.env :: (assignEach es X.env).map (·.2):=by rfl):PGs X (e :: es) (gCons t u):=by
 intro pins s σ H vs us Q I r h
 obtain ⟨v,vr,e1,h⟩:=h
 subst e1
 cases r with
 | cons r rr =>
  rw [hs]
  refine assignInOrder_cons (thn (h1 pins s σ H _ _ _ I r h) fun _ s1 ⟨σ1,H1,I1,q1⟩=>?_)
  exact h2 pins s1 σ1 H1 _ _ Q I1 rr q1
def gTup (K:PySem.W.Frag) (n:Nat) (t:TGs):TG:=fun v σ H Q=>∃ a xs,v=.ref a/\SqT K H a xs/\xs.length=n/\t xs σ H Q
theorem pg_tup {es:List Expr} {k:Nat} {t:TGs} {n:Nat} (hc:X.calm=true) (h:PGs X es t)
  (hn:(assignEach es X.env).length=n:=by rfl) (hst:(assignEach es X.env).findIdx? (·.1)=none:=by rfl):PG X (.Tuple es k pos) (gTup X.K n t):=by
 intro pins s σ H v u Q I r hw
 obtain ⟨a,xs,e1,hq,hl,hw⟩:=hw
 subst e1
 cases r
 obtain ⟨its,rv,ht,hz⟩:=I.tuple hq
 refine assign_Tuple_tuple (I.ok.hd hc) ht (by simp [hn,<- hl,rv.length]) hst fun h' hx=>?_
 have I1:Inv X pins σ H { s with heap:=h' }:=I.kept (t':=s.toks) fun b o e=>hx b o (Nat.ne_of_lt (Heap.lt_size e)) e
 exact h pins _ σ H xs _ Q I1 (by simpa using rv) hw
def tAsg (te:TE) (g:TG):TS:=fun D σ H=>te σ H fun x H1=>g x σ H1 D.nx
theorem ps_set {i:Nat} {x:Str} {e:Expr} {te:TE} {pos':Pos} (hN:X.N.Nodup) (hi:X.N[i]?=some x) (hx:Loc X.env.scope x) (he:PE X e te) (hs:swapsWith e (some (.Name x pos')) pos.line X.env=pure false:=by rfl) (hf:X.fn x=true\/X.env.scope.names.lookup x=some .local:=by first | exact .inl rfl | exact .inr rfl | assumption) :
  PS X (.Assign [.Name x pos'] e pos) (tAsg te (gName i)):=by
 intro pins s σ H D I h
 refine wpAny_Assign_Name (thn (he pins s σ H _ I h) fun v s1 ⟨y,H1,I1,r1,q1⟩=>?_) hs
 exact store_ok I1 hN hi hx r1 (fun s2 I2=>⟨_,H1,I2,q1⟩) hf
end
section
variable {X:Cx} {pos:Pos}
def tWhile (c:TT) (tb:TS):TS:=fun D σ H=>∃ W:Nat->St->Hp->Prop,(∃ m,W m σ H)/\∀ m σ H,W m σ H ->
 c σ H fun b H1=>if b=true then ∃ N:St->Hp->Prop,(∀ σ' H',N σ' H'->∃ m',m' < m/\W m' σ' H')/\tb { D with nx:=N,ct:=N,bk:=D.nx } σ H1 else D.nx σ H1
theorem ps_while {c:Expr} {body:List Stmt} {tc:TT} {tb:TS} (hp:PassesOwn (model X.prog X.w) X.A X.env X.xe) (hc:PT X c tc) (hb:PSs X body tb):PS X (.While c body [] pos) (tWhile tc tb):=by
 intro pins s σ H D I h
 obtain ⟨W,⟨m0,w0⟩,turn⟩:=h
 refine wpAny_While (codeAny_whileLoop (fun n s'=>∃ σ' H',Inv X pins σ' H' s'/\W n σ' H') ?_ m0 ⟨σ,H,I,w0⟩)
 rintro n s1 ⟨σ1,H1,I1,w1⟩
 refine wpAny_passesOwn hp (thn (hc pins s1 σ1 H1 _ I1 (turn n σ1 H1 w1)) fun b s2 ⟨H2,I2,q2⟩=>?_)
 cases b with
 | true =>
  obtain ⟨N,hN,q2⟩:=q2
  rw [if_pos rfl]
  refine wpAny_passesOwn hp (thn (hb pins s2 σ1 H2 _ I2 q2) fun f s3 q3=>?_)
  cases f with
  | next =>
   obtain ⟨σ3,H3,I3,n3⟩:=q3
   obtain ⟨m',hm,w3⟩:=hN σ3 H3 n3
   exact ⟨m',hm,σ3,H3,I3,w3⟩
  | cont =>
   obtain ⟨σ3,H3,I3,n3⟩:=q3
   obtain ⟨m',hm,w3⟩:=hN σ3 H3 n3
   exact ⟨m',hm,σ3,H3,I3,w3⟩
  | brk=>exact q3
  | ret v=>exact q3
 | false =>
  rw [if_neg Bool.false_ne_true]
  exact wpAny_execs_nil ⟨σ1,H2,I2,q2⟩
end
structure It where
 go:Nat->Hp->Prop
 yld:Nat->Hp->V->Hp->Prop
 stop:Nat->Hp->Prop
def FpOk (X:Cx) (pins:List (Addr×Obj)) (H:Hp) (b:Addr):Prop :=
 H b=none/\b≠X.env.locals/\b ∉ X.fs/\(b ∈ X.ex\/X.s_0.heap.objs.size<=b)/\(∀ x c,X.env.cells.lookup x=some c->c≠b)/\∀ p ∈ X.pn++pins,p.1≠b
theorem Inv.fpOk {X:Cx} {pins:List (Addr×Obj)} {σ:St} {H H':Hp} {s:Shared} {b:Addr} (I:Inv X pins σ H s) (hb:s.heap.objs.size<=b) (hn:H' b=none):FpOk X pins H' b:=by
 refine ⟨hn,Nat.ne_of_gt (Nat.lt_of_lt_of_le I.lt hb),I.nofs hb,.inr (Nat.le_trans I.sz hb),fun x c e z=>?_,fun p hp z=>?_⟩
 ·obtain ⟨v,q⟩:=I.cell x c e
  exact absurd (Nat.lt_of_lt_of_le q.lt (by rw [z]; exact hb)) (Nat.lt_irrefl _)
 ·exact absurd (Nat.lt_of_lt_of_le (Heap.lt_size (I.pin p hp).1) (by rw [z]; exact hb)) (Nat.lt_irrefl _)
structure Turn (P:Program) (w:World) (K:PySem.W.Frag) (tg:Expr) (J:It) (fp:List Addr) (it:Addr) (tn:Nat->Heap->Prop):Prop where
 mem:it ∈ fp
 obj:∀ i h,tn i h->∀ b ∈ fp,∃ o,h.get? b=some o/\∀ v,o.data≠.cell v
 keep:∀ i h h',tn i h->(∀ b ∈ fp,∀ o,h.get? b=some o->h'.get? b=some o)->tn i h'
 item:∀ (X:Cx),X.prog=P->X.w=w->X.K=K->X.calm=true->∀ (i:Nat) (pins:List (Addr×Obj)) (s:Shared) (σ:St) (H:Hp) (E:Value->Shared->Prop),Inv X pins σ H s->(∀ b ∈ fp,FpOk X pins H b)->tn i s.heap->J.go i H ->
  wpAny (model P w) X.A (pyNext (.ref it)) (fun r s1=>∃ u,r=some u /\
   wpAny (model P w) X.A (letOwnedTupleGo tg (.ref it) u) (fun _ s2=>∃ x H',Inv X pins σ H' s2/\RelV x u/\J.yld i H x H'/\tn (i+1) s2.heap/\∀ b ∈ fp,H' b=none) E s1) E s
 done:∀ (X:Cx),X.prog=P->X.w=w->X.K=K->X.calm=true->∀ (i:Nat) (pins:List (Addr×Obj)) (s:Shared) (σ:St) (H:Hp) (E:Value->Shared->Prop),Inv X pins σ H s->(∀ b ∈ fp,FpOk X pins H b)->tn i s.heap->J.stop i H ->
  wpAny (model P w) X.A (pyNext (.ref it)) (fun r s1=>r=none/\Inv X pins σ H s1) E s
 self:∀ (A:Around) (i:Nat) (s:Shared) (Q:Value->Shared->Prop) (E:Value->Shared->Prop),tn i s.heap->Q (.ref it) s->wpAny (model P w) A (pyIter (.ref it)) Q E s
abbrev TI:=St->Hp->(It->Hp->Prop)->Prop
def PIE (X:Cx) (pins:List (Addr×Obj)) (σ:St) (tg:Expr) (R:It->Hp->Prop) (itv:Value) (s2:Shared):Prop :=
 ∃ (it:Addr) (fp:List Addr) (tn:Nat->Heap->Prop) (J:It) (H':Hp),itv=.ref it/\Inv X pins σ H' s2/\Turn X.prog X.w X.K tg J fp it tn/\tn 0 s2.heap/\(∀ b ∈ fp,FpOk X pins H' b)/\R J H'
def PI (X:Cx) (tg iter:Expr) (wi:TI):Prop :=
 ∀ (pins:List (Addr×Obj)) (s:Shared) (σ:St) (H:Hp) (R:It->Hp->Prop),Inv X pins σ H s->wi σ H R ->
  wpAny (model X.prog X.w) X.A (eval iter X.env) (fun v s1=>wpAny (model X.prog X.w) X.A (pyIter v) (PIE X pins σ tg R) X.xe s1) X.xe s
theorem go_of {M:Model} {A:Around} {E:Value->Shared->Prop} {s:Shared} {tg:Expr} {it:Addr} {u:Value} {o:Obj} {n:String} {vs:Array Value} {Q:Unit->Shared->Prop} (ho:s.heap.get? it=some o) (hc:o.cls=.type n) (hd:o.data=.fields vs)
    (hn:["enumerate","zip","dict_itemiterator","dict_reverseitemiterator","odict_iterator","itertools.zip_longest","itertools.pairwise"].contains n=false) (hQ:Q () s):wpAny M A (letOwnedTupleGo tg (.ref it) u) Q E s:=by
  unfold letOwnedTupleGo
  cases tg <;> first
    | exact wpAny_pure hQ
    | (cases u <;> first
        | exact wpAny_pure hQ
        | (refine wpAny_bind (wpAny_load ho ?_)
           rw [hc,hd]
           show wpAny M A (if (["enumerate","zip","dict_itemiterator","dict_reverseitemiterator","odict_iterator","itertools.zip_longest","itertools.pairwise"].contains n && vs[0]? == some (rawInt _))=true then _ else _) Q E s
           rw [if_neg (by intro h; rw [hn,Bool.false_and] at h; cases h)]
           exact wpAny_pure hQ))
def Itl (K:PySem.W.Frag) (a:Addr):It :=
 ⟨fun i H=>∃ xs x,SqL K H a xs/\xs[i]?=some x,fun i H x H'=>H'=H/\∀ xs,SqL K H a xs->xs[i]?=some x,fun i H=>∃ xs,SqL K H a xs/\xs.length<=i⟩
theorem turn_list {P:Program} {w:World} {K:PySem.W.Frag} {tg:Expr} (a it:Addr):Turn P w K tg (Itl K a) [it] it (fun i h=>h.IsListIter it a i) where
 mem:=by simp
 obj:=fun i h st b hb=>by
  have e:b=it:=by simpa using hb
  subst e
  obtain ⟨o,e,c,d⟩:=st
  exact ⟨o,e,fun v z=>by rw [d] at z; cases z⟩
 keep:=fun i h h' st k=>st.at fun o e=>k it (by simp) o e
 item:=by
  intro X hP hw hK hc i pins s σ H E I hf st hg
  subst hP hw hK
  obtain ⟨xs,x,hq,hx⟩:=hg
  obtain ⟨its,rv,p,hz⟩:=I.list hq
  obtain ⟨u,hu,ru⟩:=rv.get hx
  obtain ⟨f0,f1,f2,f3,f4,f5⟩:=hf it (by simp)
  refine wpAny_pyNext_list_item st p.isList (x:=u) (by simpa using hu) fun h' st' sb=>?_
  have I1:Inv X pins σ H { s with heap:=h' }:=I.turned (t':=s.toks) (fun b o hb e=>(sb.2 b hb).trans e) f0 f1 f3 f4 f5
  obtain ⟨o,e,c,d⟩:=id st'
  exact ⟨u,rfl,go_of (s:={ s with heap:=h' }) e c d (by decide) ⟨x,H,I1,ru,⟨rfl,fun ys hy=>by rw [I.list_inj hy hq]; exact hx⟩,st',fun b hb=>(hf b hb).1⟩⟩
 done:=by
  intro X hP hw hK hc i pins s σ H E I hf st hg
  subst hP hw hK
  obtain ⟨xs,hq,hx⟩:=hg
  obtain ⟨its,rv,p,hz⟩:=I.list hq
  obtain ⟨f0,f1,f2,f3,f4,f5⟩:=hf it (by simp)
  have hl:=rv.length
  exact wpAny_pyNext_list_end (I.ok.hd hc) st p.isList (by simp; omega) fun h' eb=>⟨rfl,I.turned (t':=s.toks) (fun b o hb e=>eb b o hb e) f0 f1 f3 f4 f5⟩
 self:=fun _ _ _ _ _ st h=>wpAny_pyIter_listiter st h
end L2
namespace L2
open PySem PySem.Spec PyProof.Rows
section
variable {X:Cx} {tg:Expr}
def iList (K:PySem.W.Frag) (tl:TE):TI:=fun σ H R=>tl σ H fun x H1=>∃ a,x=.ref a/\(∃ xs,SqL K H1 a xs)/\R (Itl K a) H1
theorem pi_list {l:Expr} {tl:TE} (hl:PE X l tl):PI X tg l (iList X.K tl):=by
 intro pins s σ H R I h
 refine thn (hl pins s σ H _ I h) fun v s1 ⟨x,H1,I1,r1,q1⟩=>?_
 obtain ⟨a,e,⟨xs,hq⟩,q⟩:=q1
 subst e
 cases r1
 obtain ⟨its,rv,p,hz⟩:=I1.list hq
 refine wpAny_pyIter_list p.isList ?_
 refine ⟨s1.heap.objs.size,[s1.heap.objs.size],_,_,H1,rfl,I1.kept (t':=s1.toks) fun b o e=>Heap.get?_push_of_some _ e,turn_list a _,⟨_,Heap.get?_push_size _ rfl,rfl,rfl⟩,fun b hb=>?_,q⟩
 have e:b=s1.heap.objs.size:=by simpa using hb
 subst e
 exact I1.fpOk (Nat.le_refl _) (I1.hok.fresh (Nat.le_refl _))
def tFor (wi:TI) (g:TG) (tb:TS):TS:=fun D σ H=>wi σ H fun J H1=>∃ W:Nat->Nat->St->Hp->Prop,(∃ m,W 0 m σ H1)/\∀ i m σ H,W i m σ H ->
 (J.stop i H/\D.nx σ H)\/(J.go i H/\∃ N:St->Hp->Prop,(∀ σ' H',N σ' H'->∃ m',m' < m/\W (i+1) m' σ' H')/\∀ x H',J.yld i H x H'->g x σ H' fun σ2 H2=>tb { D with nx:=N,ct:=N,bk:=D.nx } σ2 H2)
def pinsAt (fp:List Addr) (h:Heap):List (Addr×Obj):=fp.filterMap fun b=>(h.get? b).map fun o=>(b,o)
theorem mem_pinsAt {fp:List Addr} {h:Heap} {b:Addr} {o:Obj} (hb:b ∈ fp) (e:h.get? b=some o):(b,o) ∈ pinsAt fp h:=List.mem_filterMap.mpr ⟨b,hb,by rw [e]; rfl⟩
theorem of_pinsAt {fp:List Addr} {h:Heap} {p:Addr×Obj} (hp:p ∈ pinsAt fp h):p.1 ∈ fp/\h.get? p.1=some p.2:=by
 obtain ⟨b,hb,e⟩:=List.mem_filterMap.mp hp
 cases q:h.get? b with
 | none=>rw [q] at e; cases e
 | some o =>
  rw [q] at e
  have e':(b,o)=p:=Option.some.inj e
  subst e'
  exact ⟨hb,q⟩
theorem Inv.pinned {pins:List (Addr×Obj)} {σ:St} {H:Hp} {s:Shared} {fp:List Addr} (I:Inv X pins σ H s) (hf:∀ b ∈ fp,FpOk X pins H b) (ho:∀ b ∈ fp,∃ o,s.heap.get? b=some o/\∀ v,o.data≠.cell v):Inv X (pins++pinsAt fp s.heap) σ H s :=
 I.pins_of fun p hp=>(List.mem_append.mp hp).elim (fun z=>I.pin p (List.mem_append_right _ z)) fun z=>by
  obtain ⟨hb,e⟩:=of_pinsAt z
  obtain ⟨f0,f1,f2,_⟩:=hf p.1 hb
  obtain ⟨o,e',d⟩:=ho p.1 hb
  rw [e] at e'; cases e'
  exact ⟨e,f0,f1,f2,d⟩
theorem Inv.unpinned {pins pl:List (Addr×Obj)} {σ:St} {H:Hp} {s:Shared} (I:Inv X (pins++pl) σ H s):Inv X pins σ H s:=I.pins_of fun p hp=>I.pin p (List.mem_append_right _ (List.mem_append_left _ hp))
theorem ps_for {iter:Expr} {body:List Stmt} {wi:TI} {g:TG} {tb:TS} {pos:Pos} (hp:PassesOwn (model X.prog X.w) X.A X.env X.xe) (hc:X.calm=true) (hi:PI X tg iter wi) (hg:PG X tg g) (hb:PSs X body tb)
  (hs:∀ x,foldedSetIterable iter X.env x=pure x:=by intro _; rfl):PS X (.For tg iter body [] pos) (tFor wi g tb):=by
 intro pins s σ H D I h
 refine wpAny_For (thn (hi pins s σ H _ I h) fun v s1 h1=>thn h1 fun itv s2 h2=>?_) hs
 obtain ⟨it,fp,tn,J,H2,e,I2,T,st2,f2,W,⟨m0,w0⟩,turn⟩:=h2
 subst e
 have stat:∀ {H':Hp},(∀ b ∈ fp,H' b=none)->∀ b ∈ fp,FpOk X pins H' b:=fun hn b hb=>⟨hn b hb,(f2 b hb).2⟩
 refine codeAny_forLoop_any (fun n s'=>∃ i σ' H',Inv X pins σ' H' s'/\tn i s'.heap/\(∀ b ∈ fp,H' b=none)/\W i n σ' H') ?_ m0 ⟨0,σ,H2,I2,st2,fun b hb=>(f2 b hb).1,w0⟩
 rintro n s3 ⟨i,σ3,H3,I3,st3,fr3,w3⟩
 rcases turn i n σ3 H3 w3 with ⟨stop,qn⟩ | ⟨go,N,hN,step⟩
 ·refine wpAny_passesOwn hp (thn (T.done X rfl rfl rfl hc i pins s3 σ3 H3 X.xe I3 (stat fr3) st3 stop) fun r s4 ⟨hr,I4⟩=>?_)
  subst hr
  exact wpAny_execs_nil ⟨σ3,H3,I4,qn⟩
 ·refine wpAny_passesOwn hp (thn (T.item X rfl rfl rfl hc i pins s3 σ3 H3 X.xe I3 (stat fr3) st3 go) fun r s4 ⟨u,hr,h4⟩=>?_)
  subst hr
  refine wpAny_passesOwn hp (thn h4 fun _ s5 ⟨x,H5,I5,r5,y5,st5,fr5⟩=>?_)
  have I5':=I5.pinned (stat fr5) (T.obj _ _ st5)
  refine wpAny_passesOwn hp (thn (hg _ s5 σ3 H5 x u _ I5' r5 (step x H5 y5)) fun _ s6 ⟨σ6,H6,I6,q6⟩=>?_)
  refine wpAny_passesOwn hp (thn (hb _ s6 σ6 H6 _ I6 q6) fun f s7 q7=>?_)
  have again:∀ {σ7:St} {H7:Hp},Inv X (pins++pinsAt fp s5.heap) σ7 H7 s7->N σ7 H7->∃ m,m < n/\∃ i σ' H',Inv X pins σ' H' s7/\tn i s7.heap/\(∀ b ∈ fp,H' b=none)/\W i m σ' H':=fun {σ7 H7} I7 n7=>by
   obtain ⟨m',hm,w7⟩:=hN σ7 H7 n7
   refine ⟨m',hm,i+1,σ7,H7,I7.unpinned,T.keep _ _ _ st5 fun b hb o e=>(I7.pin (b,o) (List.mem_append_right _ (List.mem_append_right _ (mem_pinsAt hb e)))).1,fun b hb=>?_,w7⟩
   obtain ⟨o,e,d⟩:=T.obj _ _ st5 b hb
   exact (I7.pin (b,o) (List.mem_append_right _ (List.mem_append_right _ (mem_pinsAt hb e)))).2.1
  cases f with
  | next=>obtain ⟨σ7,H7,I7,n7⟩:=q7; exact again I7 n7
  | cont=>obtain ⟨σ7,H7,I7,n7⟩:=q7; exact again I7 n7
  | brk=>obtain ⟨σ7,H7,I7,q7⟩:=q7; exact ⟨σ7,H7,I7.unpinned,q7⟩
  | ret v=>obtain ⟨x7,σ7,H7,I7,r7,q7⟩:=q7; exact ⟨x7,σ7,H7,I7.unpinned,r7,q7⟩
end
theorem for_list {K:PySem.W.Frag} {a:Addr} {xs:List V} {g:TG} {tb:TS} {D:Ends} {σ:St} {H:Hp} (Pv:Nat->St->Hp->Prop) (h0:Pv 0 σ H) (hl:∀ i σ H,i<=xs.length->Pv i σ H->SqL K H a xs)
  (hs:∀ i x σ H,xs[i]?=some x->Pv i σ H->g x σ H fun σ2 H2=>tb { D with nx:=Pv (i+1),ct:=Pv (i+1),bk:=D.nx } σ2 H2) (hd:∀ σ H,Pv xs.length σ H->D.nx σ H) :
  ∃ W:Nat->Nat->St->Hp->Prop,(∃ m,W 0 m σ H)/\∀ i m σ H,W i m σ H ->
   ((Itl K a).stop i H/\D.nx σ H)\/((Itl K a).go i H/\∃ N:St->Hp->Prop,(∀ σ' H',N σ' H'->∃ m',m' < m/\W (i+1) m' σ' H')/\∀ x H',(Itl K a).yld i H x H'->g x σ H' fun σ2 H2=>tb { D with nx:=N,ct:=N,bk:=D.nx } σ2 H2):=by
 refine ⟨fun i m σ H=>m=xs.length-i/\i<=xs.length/\Pv i σ H,⟨xs.length,by simp,Nat.zero_le _,h0⟩,?_⟩
 rintro i m σ H ⟨rfl,hi,p⟩
 have q:=hl i σ H hi p
 by_cases hlt:i < xs.length
 ·refine .inr ⟨⟨xs,xs[i],q,by simp [hlt]⟩,Pv (i+1),fun σ' H' p'=>⟨xs.length-(i+1),by omega,rfl,hlt,p'⟩,fun x H' y=>?_⟩
  obtain ⟨e,y⟩:=y
  subst e
  exact hs i x σ _ (y xs q) p
 ·have e:i=xs.length:=by omega
  subst e
  exact .inl ⟨⟨xs,q,Nat.le_refl _⟩,hd σ H p⟩
end L2
namespace L2
open PySem PySem.Spec PyProof.Rows
abbrev R2:=V->V->Hp->VK->Prop
def OpR (X:Cx) (f:Value->Value->Sem Value) (r:R2):Prop :=
 ∀ (pins:List (Addr×Obj)) (s:Shared) (σ:St) (H:Hp) (x y:V) (v u:Value) (Q:VK),Inv X pins σ H s->RelV x v->RelV y u->r x y H Q ->
  wpAny (model X.prog X.w) X.A (f v u) (EP X pins σ Q) X.xe s
def UnR (X:Cx) (f:Value->Sem Value) (r:V->Hp->VK->Prop):Prop :=
 ∀ (pins:List (Addr×Obj)) (s:Shared) (σ:St) (H:Hp) (x:V) (v:Value) (Q:VK),Inv X pins σ H s->RelV x v->r x H Q ->
  wpAny (model X.prog X.w) X.A (f v) (EP X pins σ Q) X.xe s
def CallR (X:Cx) (f:Value) (r:List V->Hp->VK->Prop):Prop :=
 ∀ (pins:List (Addr×Obj)) (s:Shared) (σ:St) (H:Hp) (xs:List V) (us:List Value) (Q:VK),Inv X pins σ H s->Vals xs us->r xs H Q ->
  wpAny (model X.prog X.w) X.A (call f us) (EP X pins σ Q) X.xe s
def tOp (r:R2) (ta tb:TE):TE:=fun σ H Q=>ta σ H fun x H1=>tb σ H1 fun y H2=>r x y H2 Q
def tUn (r:V->Hp->VK->Prop) (ta:TE):TE:=fun σ H Q=>ta σ H fun x H1=>r x H1 Q
def rI (C:Int->Int->Prop) (g:Int->Int->V):R2:=fun x y H Q=>∃ i j,x=.int i/\y=.int j/\C i j/\Q (g i j) H
def rI0 (g:Int->Int->V):R2:=fun x y H Q=>∃ i j,x=.int i/\y=.int j/\Q (g i j) H
def rU (g:Int->V):V->Hp->VK->Prop:=fun x H Q=>∃ i,x=.int i/\Q (g i) H
section
variable {X:Cx} {a b c:Expr} {ta tb tc:TE} {pos:Pos}
theorem binT (ha:PE X a ta) (hb:PE X b tb) {pins:List (Addr×Obj)} {s:Shared} {σ:St} {H:Hp} {R:V->V->Hp->Prop} (I:Inv X pins σ H s)
  (h:ta σ H fun x H1=>tb σ H1 fun y H2=>R x y H2) {Q:Value->Shared->Prop} {f:Value->Value->Sem Value}
  (hf:∀ v u s2 x y H2,Inv X pins σ H2 s2->RelV x v->RelV y u->R x y H2->wpAny (model X.prog X.w) X.A (f v u) Q X.xe s2) :
  wpAny (model X.prog X.w) X.A (eval a X.env) (fun v s₁=>wpAny (model X.prog X.w) X.A (eval b X.env) (fun u s₂=>wpAny (model X.prog X.w) X.A (f v u) Q X.xe s₂) X.xe s₁) X.xe s:=by
 refine thn (ha pins s σ H _ I h) fun v s1 ⟨x,H1,I1,r1,q1⟩=>?_
 refine thn (hb pins s1 σ H1 _ I1 q1) fun u s2 ⟨y,H2,I2,r2,q2⟩=>?_
 exact hf v u s2 x y H2 I2 r1 r2 q2
theorem pe_op {op:Operator} {r:R2} (ho:OpR X (binaryOp op) r) (ha:PE X a ta) (hb:PE X b tb):PE X (.BinOp a op b pos) (tOp r ta tb):=by
 intro pins s σ H Q I h
 exact wpAny_BinOp (binT ha hb I h fun v u s2 x y H2 I2 rx ry q=>ho pins s2 σ H2 x y v u Q I2 rx ry q)
theorem pe_un {op:UnaryOp} {r:V->Hp->VK->Prop} (ho:UnR X (unaryOp op) r) (ha:PE X a ta):PE X (.UnaryOp op a pos) (tUn r ta):=by
 intro pins s σ H Q I h
 exact UnaryOp_ (thn (ha pins s σ H _ I h) fun v s1 ⟨x,H1,I1,r1,q1⟩=>ho pins s1 σ H1 x v Q I1 r1 q1)
theorem opI {f:Value->Value->Sem Value} {C:Int->Int->Prop} {g:Int->Int->Int}
  (rule:∀ (i j:Int) (t u:Tok) (s:Shared) (Q:Value->Shared->Prop) (E:Value->Shared->Prop),C i j->Q (.int (g i j) s.toks) { s with toks:=s.toks+1 }->wpAny (model X.prog X.w) X.A (f (.int i t) (.int j u)) Q E s) :
  OpR X f (rI C fun i j=>.int (g i j)):=by
 intro pins s σ H x y v u Q I rx ry h
 obtain ⟨i,j,rfl,rfl,hc,q⟩:=h
 obtain ⟨t,rfl⟩:=rx
 obtain ⟨t',rfl⟩:=ry
 exact rule i j t t' s _ _ hc ⟨.int (g i j),H,I.tok _,⟨_,rfl⟩,q⟩
theorem opI0 {f:Value->Value->Sem Value} {g:Int->Int->Int}
  (rule:∀ (i j:Int) (t u:Tok) (s:Shared) (Q:Value->Shared->Prop) (E:Value->Shared->Prop),Q (.int (g i j) s.toks) { s with toks:=s.toks+1 }->wpAny (model X.prog X.w) X.A (f (.int i t) (.int j u)) Q E s) :
  OpR X f (rI0 fun i j=>.int (g i j)):=by
 intro pins s σ H x y v u Q I rx ry h
 obtain ⟨i,j,rfl,rfl,q⟩:=h
 obtain ⟨t,rfl⟩:=rx
 obtain ⟨t',rfl⟩:=ry
 exact rule i j t t' s _ _ ⟨.int (g i j),H,I.tok _,⟨_,rfl⟩,q⟩
theorem opB0 {f:Value->Value->Sem Value} {g:Int->Int->Bool}
  (rule:∀ (i j:Int) (t u:Tok) (s:Shared) (Q:Value->Shared->Prop) (E:Value->Shared->Prop),Q (.bool (g i j)) s->wpAny (model X.prog X.w) X.A (f (.int i t) (.int j u)) Q E s) :
  OpR X f (rI0 fun i j=>.bl (g i j)):=by
 intro pins s σ H x y v u Q I rx ry h
 obtain ⟨i,j,rfl,rfl,q⟩:=h
 obtain ⟨t,rfl⟩:=rx
 obtain ⟨t',rfl⟩:=ry
 exact rule i j t t' s _ _ ⟨.bl (g i j),H,I,rfl,q⟩
def CMul (i j:Int):Prop:=(-(2 ^ 64) < i/\i < 2 ^ 64)\/(-(2 ^ 64) < j/\j < 2 ^ 64)
theorem CMul.ok {i j:Int} (h:CMul i j):IntMulOk i j:=by
 rcases h with ⟨h1,h2⟩ | ⟨h1,h2⟩
 ·exact .of_left (intBits_le_64 h1 h2)
 ·exact .of_right (intBits_le_64 h1 h2)
theorem op_add:OpR X (binaryOp .Add) (rI0 fun i j=>.int (i+j)):=opI0 fun _ _ _ _ _ _ _ q=>add_int q
theorem op_sub:OpR X (binaryOp .Sub) (rI0 fun i j=>.int (i-j)):=opI0 fun _ _ _ _ _ _ _ q=>sub_int q
theorem op_mul:OpR X (binaryOp .Mult) (rI CMul fun i j=>.int (i * j)):=opI fun _ _ _ _ _ _ _ hc q=>mul_int q hc.ok
theorem unI {f:Value->Sem Value} {g:Int->Int}
  (rule:∀ (i:Int) (t:Tok) (s:Shared) (Q:Value->Shared->Prop) (E:Value->Shared->Prop),Q (.int (g i) s.toks) { s with toks:=s.toks+1 }->wpAny (model X.prog X.w) X.A (f (.int i t)) Q E s) :
  UnR X f (rU fun i=>.int (g i)):=by
 intro pins s σ H x v Q I rx h
 obtain ⟨i,rfl,q⟩:=h
 obtain ⟨t,rfl⟩:=rx
 exact rule i t s _ _ ⟨.int (g i),H,I.tok _,⟨_,rfl⟩,q⟩
theorem un_neg:UnR X (unaryOp .USub) (rU fun i=>.int (-i)):=unI fun _ _ _ _ _ q=>neg_int q
end
def scal:V->V->Bool
 | .non,.non=>true | .non,.int _=>true | .int _,.non=>true | .non,.bl _=>true | .bl _,.non=>true | .non,.str _=>true | .str _,.non=>true
 | .int _,.int _=>true | .bl _,.bl _=>true | .str _,.str _=>true | .byt _,.byt _=>true
 | .int _,.str _=>true | .str _,.int _=>true | .bl _,.str _=>true | .str _,.bl _=>true
 | _,_=>false
def rEq:R2:=fun x y H Q=>scal x y=true/\Q (.bl (decide (x=y))) H
def rNe:R2:=fun x y H Q=>scal x y=true/\Q (.bl (!decide (x=y))) H
theorem dec_int {i j:Int}:decide (V.int i=V.int j)=(i == j):=by
 rw [Bool.eq_iff_iff]
 simp
theorem dec_bl {i j:Bool}:decide (V.bl i=V.bl j)=(i == j):=by
 rw [Bool.eq_iff_iff]
 simp
theorem dec_str {i j:Str}:decide (V.str i=V.str j)=(i == j):=by
 rw [Bool.eq_iff_iff]
 simp
theorem dec_byt {i j:Array UInt8}:decide (V.byt i=V.byt j)=(i.toList == j.toList):=by
 rw [Bool.eq_iff_iff]
 cases i
 cases j
 simp
section
variable {X:Cx} {a b c:Expr} {ta tb tc:TE} {pos:Pos}
theorem fin_bl {pins:List (Addr×Obj)} {σ:St} {H:Hp} {s:Shared} {Q:VK} {k k':Bool} (I:Inv X pins σ H s) (q:Q (.bl k) H) (e:k=k'):EP X pins σ Q (.bool k') s:=by
 subst e
 exact ⟨.bl k,H,I,rfl,q⟩
theorem op_eq:OpR X (compareOp .Eq) rEq:=by
 intro pins s σ H x y v u Q I rx ry h
 obtain ⟨hs,q⟩:=h
 cases x with
 | non =>
  cases rx
  cases y with
  | non=>cases ry; exact PySem.EqNone.eq_none_none (fin_bl I q (by simp))
  | bl j=>cases ry; exact PySem.EqNone.eq_none_bool (fin_bl I q (by simp))
  | int j=>obtain ⟨t',rfl⟩:=ry; exact PySem.EqNone.eq_none_int (fin_bl I q (by simp))
  | str j=>obtain ⟨t',rfl⟩:=ry; exact PySem.EqNone.eq_none_str (fin_bl I q (by simp))
  | _=>exact absurd (show false=true from hs) Bool.false_ne_true
 | bl i =>
  cases rx
  cases y with
  | non=>cases ry; exact PySem.EqNone.eq_bool_none (fin_bl I q (by simp))
  | bl j=>cases ry; exact eq_bool (fin_bl I q dec_bl)
  | str j=>obtain ⟨t',rfl⟩:=ry; exact PySem.EqMixed.eq_bool_str (fin_bl I q (by simp))
  | _=>exact absurd (show false=true from hs) Bool.false_ne_true
 | int i =>
  obtain ⟨t,rfl⟩:=rx
  cases y with
  | non=>cases ry; exact PySem.EqNone.eq_int_none (fin_bl I q (by simp))
  | int j=>obtain ⟨t',rfl⟩:=ry; exact eq_int (fin_bl I q dec_int)
  | str j=>obtain ⟨t',rfl⟩:=ry; exact PySem.EqMixed.eq_int_str (fin_bl I q (by simp))
  | _=>exact absurd (show false=true from hs) Bool.false_ne_true
 | str i =>
  obtain ⟨t,rfl⟩:=rx
  cases y with
  | non=>cases ry; exact PySem.EqNone.eq_str_none (fin_bl I q (by simp))
  | bl j=>cases ry; exact PySem.EqMixed.eq_str_bool (fin_bl I q (by simp))
  | int j=>obtain ⟨t',rfl⟩:=ry; exact PySem.EqMixed.eq_str_int (fin_bl I q (by simp))
  | str j=>obtain ⟨t',rfl⟩:=ry; exact eq_str (fin_bl I q dec_str)
  | _=>exact absurd (show false=true from hs) Bool.false_ne_true
 | byt i =>
  obtain ⟨t,rfl⟩:=rx
  cases y with
  | byt j=>obtain ⟨t',rfl⟩:=ry; exact PySem.W.eq_bytes (fin_bl I q dec_byt)
  | _=>exact absurd (show false=true from hs) Bool.false_ne_true
 | _=>cases y <;> exact absurd (show false=true from hs) Bool.false_ne_true
theorem op_ne:OpR X (compareOp .NotEq) rNe:=by
 intro pins s σ H x y v u Q I rx ry h
 obtain ⟨hs,q⟩:=h
 cases x with
 | non =>
  cases rx
  cases y with
  | non=>cases ry; exact PySem.EqNone.ne_none_none (fin_bl I q (by simp))
  | bl j=>cases ry; exact PySem.EqNone.ne_none_bool (fin_bl I q (by simp))
  | int j=>obtain ⟨t',rfl⟩:=ry; exact PySem.EqNone.ne_none_int (fin_bl I q (by simp))
  | str j=>obtain ⟨t',rfl⟩:=ry; exact PySem.EqNone.ne_none_str (fin_bl I q (by simp))
  | _=>exact absurd (show false=true from hs) Bool.false_ne_true
 | bl i =>
  cases rx
  cases y with
  | non=>cases ry; exact PySem.EqNone.ne_bool_none (fin_bl I q (by simp))
  | bl j=>cases ry; exact ne_bool (fin_bl I q (congrArg not dec_bl))
  | str j=>obtain ⟨t',rfl⟩:=ry; exact PySem.EqMixed.ne_bool_str (fin_bl I q (by simp))
  | _=>exact absurd (show false=true from hs) Bool.false_ne_true
 | int i =>
  obtain ⟨t,rfl⟩:=rx
  cases y with
  | non=>cases ry; exact PySem.EqNone.ne_int_none (fin_bl I q (by simp))
  | int j=>obtain ⟨t',rfl⟩:=ry; exact ne_int (fin_bl I q (congrArg not dec_int))
  | str j=>obtain ⟨t',rfl⟩:=ry; exact PySem.EqMixed.ne_int_str (fin_bl I q (by simp))
  | _=>exact absurd (show false=true from hs) Bool.false_ne_true
 | str i =>
  obtain ⟨t,rfl⟩:=rx
  cases y with
  | non=>cases ry; exact PySem.EqNone.ne_str_none (fin_bl I q (by simp))
  | bl j=>cases ry; exact PySem.EqMixed.ne_str_bool (fin_bl I q (by simp))
  | int j=>obtain ⟨t',rfl⟩:=ry; exact PySem.EqMixed.ne_str_int (fin_bl I q (by simp))
  | str j=>obtain ⟨t',rfl⟩:=ry; exact ne_str (fin_bl I q (congrArg not dec_str))
  | _=>exact absurd (show false=true from hs) Bool.false_ne_true
 | byt i =>
  obtain ⟨t,rfl⟩:=rx
  cases y with
  | byt j=>obtain ⟨t',rfl⟩:=ry; exact PySem.W.ne_bytes (fin_bl I q (congrArg not dec_byt))
  | _=>exact absurd (show false=true from hs) Bool.false_ne_true
 | _=>cases y <;> exact absurd (show false=true from hs) Bool.false_ne_true
theorem op_lt:OpR X (compareOp .Lt) (rI0 fun i j=>.bl (decide (i < j))):=opB0 fun _ _ _ _ _ _ _ q=>lt_int q
theorem op_le:OpR X (compareOp .LtE) (rI0 fun i j=>.bl (decide (i<=j))):=opB0 fun _ _ _ _ _ _ _ q=>le_int q
theorem op_gt:OpR X (compareOp .Gt) (rI0 fun i j=>.bl (decide (j < i))):=opB0 fun _ _ _ _ _ _ _ q=>gt_int q
theorem op_ge:OpR X (compareOp .GtE) (rI0 fun i j=>.bl (decide (j<=i))):=opB0 fun _ _ _ _ _ _ _ q=>ge_int q
theorem op_isN:OpR X (compareOp .Is) (fun x y H Q=>y=.non/\Q (.bl (decide (x=.non))) H):=by
 intro pins s σ H x y v u Q I rx ry h
 obtain ⟨rfl,q⟩:=h
 cases ry
 refine is_none_gen (fin_bl I q ?_)
 cases x <;> first
  | (cases rx; rfl)
  | (obtain ⟨t,rfl⟩:=rx; rfl)
theorem nomark (b:Expr) {op:CmpOp} (h:op≠.In:=by decide) (h2:op≠.NotIn:=by decide):behindInMarks op b=false:=by
 have e1:(op == CmpOp.In)=false:=by cases op <;> first | rfl | exact absurd rfl h
 have e2:(op == CmpOp.NotIn)=false:=by cases op <;> first | rfl | exact absurd rfl h2
 cases b <;> simp [behindInMarks,e1,e2]
theorem pe_cmpR {op:CmpOp} {r:R2} (ho:OpR X (compareOp op) r) (ha:PE X a ta) (hb:PE X b tb) (hm:behindInMarks op b=false):PE X (.Compare a [op] [b] pos) (tOp r ta tb):=by
 intro pins s σ H Q I h
 exact wpAny_Compare1 (binT ha hb I h fun v u s2 x y H2 I2 rx ry q=>ho pins s2 σ H2 x y v u Q I2 rx ry q) hm
def tTest (t:TE):TT:=fun σ H Q=>t σ H fun x H'=>∃ k,x=.bl k/\Q k H'
theorem pt_cmpR {op:CmpOp} {r:R2} (ho:OpR X (compareOp op) r) (ha:PE X a ta) (hb:PE X b tb) (hm:behindInMarks op b=false):PT X (.Compare a [op] [b] pos) (tTest (tOp r ta tb)):=by
 intro pins s σ H Q I h
 refine wpAny_isTrue_Compare1 (thn (ha pins s σ H _ I h) fun v s1 ⟨x,H1,I1,r1,q1⟩=>thn (hb pins s1 σ H1 _ I1 q1) fun u s2 ⟨y,H2,I2,r2,q2⟩ =>
  thn (ho pins s2 σ H2 x y v u _ I2 r1 r2 q2) fun c s3 ⟨z,H3,I3,r3,k,e,q3⟩=>?_) hm
 subst e
 cases r3
 exact wpAny_truthy_bool ⟨H3,I3,q3⟩
def tChain (r r':R2) (ta tb tc:TE):TE:=fun σ H Q=>ta σ H fun x H1=>tb σ H1 fun y H2=>r x y H2 fun z H3=>∃ k,z=.bl k /\
 (if k=true then tc σ H3 fun w' H4=>r' y w' H4 Q else Q (.bl false) H3)
theorem pe_chain {op op':CmpOp} {r r':R2} (ho:OpR X (compareOp op) r) (ho':OpR X (compareOp op') r') (ha:PE X a ta) (hb:PE X b tb) (hc:PE X c tc)
  (hm:lastMarks [op,op'] [b,c]=false:=by with_unfolding_all rfl):PE X (.Compare a [op,op'] [b,c] pos) (tChain r r' ta tb tc):=by
 intro pins s σ H Q I h
 refine Compare_chain (thn (ha pins s σ H _ I h) fun v s1 ⟨x,H1,I1,r1,q1⟩=>chain_link (thn (hb pins s1 σ H1 _ I1 q1) fun u s2 ⟨y,H2,I2,r2,q2⟩ =>
  thn (ho pins s2 σ H2 x y v u _ I2 r1 r2 q2) fun d s3 ⟨z,H3,I3,r3,k,e,q3⟩=>?_)) hm
 subst e
 cases r3
 refine wpAny_truthy_bool ?_
 cases k with
 | false=>exact ite_ff ⟨.bl false,H3,I3,rfl,q3⟩
 | true=>exact ite_tt (chain_last (thn (hc pins s3 σ H3 _ I3 q3) fun w' s4 ⟨z',H4,I4,r4,q4⟩=>ho' pins s4 σ H4 y z' u w' Q I4 r2 r4 q4))
theorem line63:(sizeLine:Nat) < 2 ^ 63:=by rw [sizeLine_eq]; decide
theorem vals1 {x:V} {us:List Value} (r:Vals [x] us):∃ u,us=[u]/\RelV x u:=by
 cases r with
 | cons r1 r2=>cases r2; exact ⟨_,rfl,r1⟩
theorem vals2 {x y:V} {us:List Value} (r:Vals [x,y] us):∃ u w',us=[u,w']/\RelV x u/\RelV y w':=by
 cases r with
 | cons r1 r2 =>
  cases r2 with
  | cons r3 r4=>cases r4; exact ⟨_,_,rfl,r1,r3⟩
theorem call_min2 (hc:X.calm=true):CallR X (.builtin "min") (fun xs H Q=>∃ i j,xs=[.int i,.int j]/\Q (.int (if j < i then j else i)) H):=by
 intro pins s σ H xs us Q I r h
 obtain ⟨i,j,rfl,q⟩:=h
 obtain ⟨u,w',rfl,⟨t,rfl⟩,⟨t',rfl⟩⟩:=vals2 r
 refine min_two_ints (I.ok.hd hc) fun h' tk k=>⟨_,H,I.kept k,?_,q⟩
 by_cases hj:j < i
 ·rw [if_pos hj,if_pos hj]; exact ⟨_,rfl⟩
 ·rw [if_neg hj,if_neg hj]; exact ⟨_,rfl⟩
end
end L2
namespace L2
open PySem PySem.Spec PyProof.Rows
structure ObjM (h:Heap) (x dx C:Addr) (mA:Str->Option Value):Prop where
 obj:h.get? x=some (PySem.W.instObj C dx)
 ns:h.Ns1 dx mA
 ne:dx≠x
theorem lookIn_ns {h:Heap} {dx:Addr} {mA:Str->Option Value} (n:h.Ns1 dx mA):∃ od,h.get? dx=some od/\∀ name,PySem.W.lookIn name od=some (mA name):=by
 obtain ⟨o,es,ep,ho,hd,hk,_,hm⟩:=n
 refine ⟨o,ho,fun name=>?_⟩
 have e:=hm name
 unfold nsFind findBy at e
 rw [<- Array.find?_toList] at e
 unfold PySem.W.lookIn
 rw [hd]
 dsimp only
 split
 ·rename_i y q
  rw [q] at e
  exact congrArg some e
 ·rename_i q
  rw [q] at e
  have a:es.toList.any (·.refKey)=false:=by
   rw [List.any_eq_false]
   intro y hy
   obtain ⟨z,t,hkey⟩:=hk y (Array.mem_toList_iff.mp hy)
   simp [DictEntry.refKey,hkey]
  have a':¬ es.toList.any (·.refKey)=true:=by rw [a]; exact Bool.false_ne_true
  rw [if_neg a']
  exact congrArg some e
theorem ObjM.look {h:Heap} {x dx C:Addr} {mA:Str->Option Value} (I:ObjM h x dx C mA):∃ od,PySem.W.InstAt h x (PySem.W.instObj C dx) C (some od)/\∀ name,PySem.W.lookIn name od=some (mA name) :=
 let ⟨od,ho,hl⟩:=lookIn_ns I.ns
 ⟨od,⟨I.obj,rfl,rfl,ho⟩,hl⟩
section
variable {prog:Program} {w:World} {A:Around} {E:Value->Shared->Prop} {s:Shared} {K:PySem.W.Frag} {x dx C f:Addr} {mA:Str->Option Value} {name:Str} {v:Value}
theorem get_map {expr:Bool} {Q:Value->Shared->Prop} (X:K.In s.heap) (I:ObjM s.heap x dx C mA) (hg:PySem.W.plainGet K C name=true) (hh:PySem.W.hasDictIn K C=true)
  (ha:PySem.W.findIn K (.ref C) name=some none) (hv:mA name=some v) (hv':PySem.W.handedIn v=true) (h:Q v { s with toks:=s.toks+1 }) :
  wpAny (model prog w) A (getAttr (.ref x) name expr) Q E s:=by
 obtain ⟨od,J,hl⟩:=I.look
 exact PySem.W.get_value X J (PySem.W.plainGet_of hg).1 (PySem.W.findObj_own hh ha rfl (by rw [hl,hv])) hv' h
theorem get_meth {pl:Sem Bool} {Q:Value×List Value->Shared->Prop} (X:K.In s.heap) (I:ObjM s.heap x dx C mA) (hg:PySem.W.plainGet K C name=true)
  (hf:PySem.W.findIn K (.ref C) name=some (some (.ref f))) (ht:PySem.W.isFn K (.ref f)=true) (hv:mA name=none) (h:Q (.ref f,[.ref x]) s) :
  wpAny (model prog w) A (getMethod (.ref x) name pl) Q E s:=by
 obtain ⟨od,J,hl⟩:=I.look
 exact PySem.W.method_fn X J (PySem.W.plainGet_of hg).1 (PySem.W.plainGet_of hg).2 hf (beq_iff_eq.mp ht) (by show (PySem.W.lookIn name od).map (·.isSome)=some false; rw [hl,hv]; rfl) h
theorem set_map {ns:List Str} {Q:Unit->Shared->Prop} (X:K.In s.heap) (I:ObjM s.heap x dx C mA)
  (hs:PySem.W.findIn K (.ref C) "__setattr__" = some (some (.builtin "object.__setattr__"))) (hp:PySem.W.plainOver K C=true) (ht:PySem.W.takerIn K C name=some none) (hh:PySem.W.hasDictIn K C=true)
  (hw:PySem.Within mA ns) (hsz:ns.length<=sizeLine)
  (h:∀ h',ObjM h' x dx C (fun y=>if y=name then some v else mA y)->Heap.SameBut dx s.heap h'->Q () { s with heap:=h',toks:=s.toks+2 }) :
  wpAny (model prog w) A (setAttr (.ref x) name v) Q E s:=by
 obtain ⟨od,J,hl⟩:=I.look
 refine PySem.W.set_plain X J hs (PySem.W.osa_open (s:={ s with toks:=s.toks+1 }) (r:=none) X J hp ht fun b=>?_)
 obtain ⟨cd,hc,hd'⟩:=PySem.W.any_some hh
 have hx:s.heap.get? x=some ⟨.ref C,some dx,.plain,#[]⟩:=I.obj
 refine wpAny_bind (wpAny_pure (wpAny_bind (wpAny_bind (wpAny_loadPart hx (wpAny_bind (PySem.W.Looks.here (s:={ s with toks:=s.toks+1 }) (PySem.W.looks_clsIn X hc) ?_))))))
 rw [hd']
 refine wpAny_pure (a:=some dx) (wpAny_bind (wpAny_pure (wpAny_bind ?_)))
 refine wpAny_nsSet1 (s:={ s with toks:=s.toks+1 }) I.ns fun h' hn2 hs2=>?_
 obtain ⟨oD,esD,epD,hoD,hdD,hcD⟩:=hn2.count (PySem.Within.cons name v hw)
 refine wpAny_bind (wpAny_lookBehind hoD (by rw [hdD]; exact pastItsLine_dict (Nat.le_trans hcD (by rw [List.length_cons]; omega))) ?_)
 exact wpAny_pure (h _ ⟨(hs2.2 _ (Ne.symm I.ne)).trans I.obj,hn2,I.ne⟩ hs2)
theorem make_map {R:Result->Shared->Prop} {vs:List Value} {kw:List (Str×Value)} (X:K.In s.heap) (hm:PySem.W.makesIn K C=true)
  (hi:PySem.W.findIn K (.ref C) "__init__" = some (some (.ref f))) (hf:PySem.W.typeIn K (.ref f)=some (.type "function"))
  (h:codeAny (model prog w) (A.under (.builtin "type.__call__" ⟨.ref C :: vs,kw⟩)) (.call (.ref f) ⟨.ref (s.heap.objs.size+1) :: vs,kw⟩) (PySem.W.InitBack (s.heap.objs.size+1) R)
   { s with heap:=(s.heap.push PySem.W.emptyDict).push (PySem.W.instObj C s.heap.objs.size) }) :
  codeAny (model prog w) A (.call (.ref C) ⟨vs,kw⟩) R s:=by
 obtain ⟨hh,g,d,t,os⟩:=s
 exact PySem.W.make_core (PySem.W.makes_of X hm) (PySem.W.looks_findIn X hi) (fun self=>PySem.W.bind_fn X self hf) (.inl rfl) h
theorem make_map0 {R:Result->Shared->Prop} (X:K.In s.heap) (hm:PySem.W.makesIn K C=true)
  (hi:PySem.W.findIn K (.ref C) "__init__" = some (some (.builtin "object.__init__")))
  (hb:∀ self,PySem.W.Looks (model prog w) s.heap (bindSpecial (.builtin "object.__init__") self) (.builtin "object.__init__",[self]))
  (h:codeAny (model prog w) (A.under (.builtin "type.__call__" ⟨[.ref C],[]⟩)) (.call (.builtin "object.__init__") ⟨[.ref (s.heap.objs.size+1)],[]⟩) (PySem.W.InitBack (s.heap.objs.size+1) R)
   { s with heap:=(s.heap.push PySem.W.emptyDict).push (PySem.W.instObj C s.heap.objs.size) }) :
  codeAny (model prog w) A (.call (.ref C) ⟨[],[]⟩) R s:=by
 obtain ⟨hh,g,d,t,os⟩:=s
 exact PySem.W.make_core (PySem.W.makes_of X hm) (PySem.W.looks_findIn X hi) hb (.inr ⟨rfl,rfl⟩) h
end
def putF (f:Str) (v:V):List (Str×V)->List (Str×V)
 | []=>[(f,v)]
 | (g,x) :: r=>if g=f then (g,v) :: r else (g,x) :: putF f v r
theorem lookup_putF (f g:Str) (v:V):∀ fs:List (Str×V),(putF f v fs).lookup g=if g=f then some v else fs.lookup g
 | []=>by
  show List.lookup g [(f,v)]=_
  by_cases h:g=f
  ·have hb:(g == f)=true:=beq_iff_eq.mpr h
   simp only [List.lookup,hb,if_pos h]
  ·have hb:(g == f)=false:=beq_eq_false_iff_ne.mpr h
   simp only [List.lookup,hb,if_neg h]
 | (k,x) :: r=>by
  have ih:=lookup_putF f g v r
  rw [show putF f v ((k,x) :: r)=(if k=f then (k,v) :: r else (k,x) :: putF f v r) from rfl]
  by_cases hk:k=f
  ·rw [if_pos hk]
   by_cases h:g=k
   ·have hb:(g == k)=true:=beq_iff_eq.mpr h
    simp only [List.lookup,hb,if_pos (h.trans hk)]
   ·have hb:(g == k)=false:=beq_eq_false_iff_ne.mpr h
    simp only [List.lookup,hb,if_neg (fun e:g=f=>h (e.trans hk.symm))]
  ·rw [if_neg hk]
   by_cases h:g=k
   ·have hb:(g == k)=true:=beq_iff_eq.mpr h
    simp only [List.lookup,hb,if_neg (fun e:g=f=>hk (h.symm.trans e))]
   ·have hb:(g == k)=false:=beq_eq_false_iff_ne.mpr h
    simp only [List.lookup,hb]
    exact ih
theorem keys_putF (f:Str) (v:V):∀ fs:List (Str×V),f ∈ (putF f v fs).map (·.1)/\∀ g,g ∈ fs.map (·.1)->g ∈ (putF f v fs).map (·.1)
 | []=>⟨by simp [putF],fun g h=>by simp at h⟩
 | (k,x) :: r=>by
  obtain ⟨i1,i2⟩:=keys_putF f v r
  rw [show putF f v ((k,x) :: r)=(if k=f then (k,v) :: r else (k,x) :: putF f v r) from rfl]
  by_cases hk:k=f
  ·rw [if_pos hk]
   subst hk
   exact ⟨by simp,fun g h=>by simpa using h⟩
  ·rw [if_neg hk]
   refine ⟨?_,fun g h=>?_⟩
   ·rw [List.map_cons]
    exact List.mem_cons_of_mem _ i1
   ·rw [List.map_cons] at h ⊢
    rcases List.mem_cons.mp h with e | e
    ·exact List.mem_cons.mpr (.inl e)
    ·exact List.mem_cons_of_mem _ (i2 g e)
theorem length_putF (f:Str) (v:V):∀ fs:List (Str×V),(putF f v fs).length<=fs.length+1
 | []=>by simp [putF]
 | (k,x) :: r=>by
  have ih:=length_putF f v r
  rw [show putF f v ((k,x) :: r)=(if k=f then (k,v) :: r else (k,x) :: putF f v r) from rfl]
  by_cases hk:k=f
  ·rw [if_pos hk,List.length_cons,List.length_cons]; omega
  ·rw [if_neg hk,List.length_cons,List.length_cons]; omega
theorem RelO.some_of {v:V} {o:Option Value} (r:RelO (some v) o):∃ u,o=some u/\RelV v u:=by
 cases o with
 | none=>exact (show False from r).elim
 | some u=>exact ⟨u,rfl,r⟩
theorem RelO.none_of {o:Option Value} (r:RelO none o):o=none:=by
 cases o with
 | none=>rfl
 | some u=>exact (show False from r).elim
theorem handed_of {v:V} {u:Value} (r:RelV v u):PySem.W.handedIn u=true:=by
 cases v with
 | non=>cases (show u=Value.none from r); rfl
 | bl b=>cases (show u=Value.bool b from r); rfl
 | int i=>obtain ⟨t,e⟩:=(show ∃ t,u=Value.int i t from r); cases e; rfl
 | str x=>obtain ⟨t,e⟩:=(show ∃ t,u=Value.str x t from r); cases e; rfl
 | byt b=>obtain ⟨t,e⟩:=(show ∃ t,u=Value.bytes b t from r); cases e; rfl
 | flt b=>obtain ⟨t,e⟩:=(show ∃ t,u=Value.float b t from r); cases e; rfl
 | ref a=>cases (show u=Value.ref a from r); rfl
 | ty n=>cases (show u=Value.type n from r); rfl
section
variable {P:Program} {w:World} {H H':Hp} {h h':Heap} {a C dx:Addr} {fs fs':List (Str×V)}
theorem ins_get (hok:HOk P w H h) (e:H a=some (.ins C dx fs)):∃ mA,ObjM h a dx C mA/\(∀ f,RelO (fs.lookup f) (mA f))/\PySem.Within mA (fs.map (·.1))/\fs.length<=1000/\H dx=some (.own a):=by
 obtain ⟨d,z,ne,ob,mA,n,r,q⟩:=(show ObjOk P w H h a (.ins C dx fs) from hok a _ e)
 exact ⟨mA,⟨ob,n,ne⟩,r,q,z,d⟩
end
structure Cls (K:PySem.W.Frag) (C:Addr):Prop where
 pg:PySem.W.plainGet K C Str.empty=true
 hd:PySem.W.hasDictIn K C=true
 po:PySem.W.plainOver K C=true
 sa:PySem.W.findIn K (.ref C) "__setattr__" = some (some (.builtin "object.__setattr__"))
theorem Cls.get {K:PySem.W.Frag} {C:Addr} (c:Cls K C) (f:Str):PySem.W.plainGet K C f=true:=c.pg
def NoAttr (K:PySem.W.Frag) (C:Addr) (f:Str):Prop:=PySem.W.findIn K (.ref C) f=some none
theorem NoAttr.taker {K:PySem.W.Frag} {C:Addr} {f:Str} (n:NoAttr K C f):PySem.W.takerIn K C f=some none:=by
 unfold PySem.W.takerIn
 rw [show PySem.W.findIn K (.ref C) f=some none from n]
 rfl
structure Con (K:PySem.W.Frag) (C:Addr) (f:Str) (v:V) (u:Value):Prop where
 at_:PySem.W.findIn K (.ref C) f=some (some u)
 rel:RelV v u
 get:PySem.W.specialIn K u "__get__" = some none
 cp:PySem.W.copiedNames.contains f=false
structure Meth (K:PySem.W.Frag) (C:Addr) (m:Str) (f:Addr):Prop where
 at_:PySem.W.findIn K (.ref C) m=some (some (.ref f))
 fn:PySem.W.isFn K (.ref f)=true
 kp:PySem.W.keepIn K (.ref f)=true
section
variable {X:Cx} {pins:List (Addr×Obj)} {σ:St} {H:Hp} {s:Shared} {a C dx:Addr} {fs:List (Str×V)} {f:Str} {v:V} {A:Around} {E:Value->Shared->Prop}
theorem getattr_ok {b:Bool} {Q:Value->Shared->Prop} (I:Inv X pins σ H s) (e:H a=some (.ins C dx fs)) (c:Cls X.K C) (n:NoAttr X.K C f) (l:fs.lookup f=some v)
  (h:∀ u s',Inv X pins σ H s'->RelV v u->Q u s'):wpAny (model X.prog X.w) A (getAttr (.ref a) f b) Q E s:=by
 obtain ⟨mA,O,r,_,_,_⟩:=ins_get I.hok e
 obtain ⟨u,hu,ru⟩:=RelO.some_of (v:=v) (o:=mA f) (by rw [<- l]; exact r f)
 exact get_map I.kIn O (c.get f) c.hd n hu (handed_of ru) (h u _ (I.tok _) ru)
theorem getmeth_ok {m:Str} {g:Addr} {pl:Sem Bool} {Q:Value×List Value->Shared->Prop} (I:Inv X pins σ H s) (e:H a=some (.ins C dx fs)) (c:Cls X.K C) (k:Meth X.K C m g) (l:fs.lookup m=none)
  (h:Q (.ref g,[.ref a]) s):wpAny (model X.prog X.w) A (getMethod (.ref a) m pl) Q E s:=by
 obtain ⟨mA,O,r,_,_,_⟩:=ins_get I.hok e
 have hn:mA m=none:=RelO.none_of (by rw [<- l]; exact r m)
 exact get_meth I.kIn O (c.get m) k.at_ k.fn hn h
theorem setattr_ok {y:V} {u:Value} {Q:Unit->Shared->Prop} (I:Inv X pins σ H s) (e:H a=some (.ins C dx fs)) (c:Cls X.K C) (n:NoAttr X.K C f) (hl:fs.length < 1000) (ry:RelV y u)
  (h:∀ s',Inv X pins σ (upd H a (.ins C dx (putF f y fs))) s'->Q () s'):wpAny (model X.prog X.w) A (setAttr (.ref a) f u) Q E s:=by
 obtain ⟨mA,O,r,wi,_,ho⟩:=ins_get I.hok e
 have hz:(fs.map (·.1)).length<=sizeLine:=by rw [List.length_map,sizeLine_eq]; omega
 refine set_map I.kIn O c.sa c.po n.taker c.hd wi hz fun h' O' sb=>h _ ?_
 have hd:∃ o,h'.get? dx=some o:=let ⟨o,_,_,e',_⟩:=O'.ns; ⟨o,e'⟩
 refine I.write (x:=a) (e:=dx) (by rw [e]; exact True.intro) (.inr ho) (fun b q hb z=>(sb.2 b hb).trans z) hd ?_
 refine ⟨by rw [upd_ne O.ne]; exact ho,?_,O.ne,O'.obj,_,O'.ns,fun g=>?_,fun g hg=>?_⟩
 ·have:=length_putF f y fs; omega
 ·show RelO ((putF f y fs).lookup g) (if g=f then some u else mA g)
  rw [lookup_putF]
  by_cases q:g=f
  ·rw [if_pos q,if_pos q]; exact ry
  ·rw [if_neg q,if_neg q]; exact r g
 ·by_cases q:g=f
  ·rw [q]; exact (keys_putF f y fs).1
  ·refine (keys_putF f y fs).2 g (wi g fun z=>hg ?_)
   show (if g=f then some u else mA g)=none
   rw [if_neg q]; exact z
theorem Inv.made (I:Inv X pins σ H s):Inv X pins σ (upd (upd H s.heap.objs.size (.own (s.heap.objs.size+1))) (s.heap.objs.size+1) (.ins C s.heap.objs.size []))
  { s with heap:=(s.heap.push PySem.W.emptyDict).push (PySem.W.instObj C s.heap.objs.size) }:=by
 have e1:(s.heap.push PySem.W.emptyDict).get? s.heap.objs.size=some PySem.W.emptyDict:=Heap.get?_push_size s.heap rfl
 have e2:((s.heap.push PySem.W.emptyDict).push (PySem.W.instObj C s.heap.objs.size)).get? (s.heap.objs.size+1)=some (PySem.W.instObj C s.heap.objs.size):=by
  have:=Heap.get?_push_size (s.heap.push PySem.W.emptyDict) (o:=PySem.W.instObj C s.heap.objs.size) rfl
  rwa [Heap.size_push] at this
 have e3:(s.heap.push PySem.W.emptyDict).Ns s.heap.objs.size (fun _=>none):=⟨PySem.W.emptyDict,#[],_,e1,rfl,(fun e he=>absurd he (by simp)),fun _=>rfl⟩
 have I1:=I.laid (a:=s.heap.objs.size) (o:=.own (s.heap.objs.size+1)) (h':=s.heap.push PySem.W.emptyDict) (t':=s.toks) (fun b u q=>Heap.get?_push_of_some _ q) (Nat.le_refl _) ⟨_,e1⟩
 refine I1.laid (a:=s.heap.objs.size+1) (o:=.ins C s.heap.objs.size []) (t':=s.toks) (fun b u q=>Heap.get?_push_of_some _ q) (Nat.le_of_eq (Heap.size_push _ _)) ?_
 have ne:s.heap.objs.size≠s.heap.objs.size+1:=Nat.ne_of_lt (Nat.lt_succ_self _)
 refine ⟨by rw [upd_ne ne,upd_same],Nat.zero_le _,ne,e2,fun _=>none,(Heap.Ns1.of_empty e3).at fun o q=>Heap.get?_push_of_some _ q,fun _=>True.intro,fun y hy=>absurd rfl hy⟩
theorem attr_of {prog:Program} {w:World} {env:Env} {e:Expr} {f:Str} {pos:Pos} {s:Shared} {Q:Value->Shared->Prop} (hb:attributeBase e f env (eval e env)=eval e env)
  (h:wpAny (model prog w) A (eval e env) (fun o s₁=>wpAny (model prog w) A (getAttr o f true) Q E s₁) E s):wpAny (model prog w) A (eval (.Attribute e f pos) env) Q E s :=
 Attribute_any_ h (by rw [arm_eval_Attribute,hb])
end
def tFld (K:PySem.W.Frag) (ta:TE) (f:Str):TE:=fun σ H Q=>ta σ H fun x H1=>∃ a C dx fs v,x=.ref a/\H1 a=some (.ins C dx fs)/\Cls K C/\NoAttr K C f/\fs.lookup f=some v/\Q v H1
def tCon (K:PySem.W.Frag) (ta:TE) (f:Str):TE:=fun σ H Q=>ta σ H fun x H1=>∃ a C dx fs v u,x=.ref a/\H1 a=some (.ins C dx fs)/\Cls K C/\Con K C f v u/\fs.lookup f=none/\Q v H1
def sFld (K:PySem.W.Frag) (ta tv:TE) (f:Str):TS:=fun D σ H=>tv σ H fun y H1=>ta σ H1 fun x H2=>∃ a C dx fs,x=.ref a/\H2 a=some (.ins C dx fs)/\Cls K C/\NoAttr K C f/\fs.length < 1000 /\
 D.nx σ (upd H2 a (.ins C dx (putF f y fs)))
def InOp (X:Cx) (op:Operator) (rd:V->V->Hp->VK->Prop):Prop :=
 ∀ (pins:List (Addr×Obj)) (s:Shared) (σ:St) (H:Hp) (x y:V) (u v:Value) (Q:VK),Inv X pins σ H s->RelV x u->RelV y v->rd x y H Q->wpAny (model X.prog X.w) X.A (inplaceOp op u v) (EP X pins σ Q) X.xe s
def sFldAug (K:PySem.W.Frag) (ta tv:TE) (rd:V->V->Hp->VK->Prop) (f:Str):TS:=fun D σ H=>ta σ H fun x H1=>∃ a C dx fs v,x=.ref a/\H1 a=some (.ins C dx fs)/\Cls K C/\NoAttr K C f/\fs.lookup f=some v /\
 tv σ H1 fun y H2=>rd v y H2 fun z H3=>∃ dx' fs',H3 a=some (.ins C dx' fs')/\fs'.length < 1000/\D.nx σ (upd H3 a (.ins C dx' (putF f z fs')))
section
variable {X:Cx} {o e value:Expr} {f:Str} {pos pos' tpos:Pos} {ta tv:TE}
theorem pe_fld (he:PE X e ta) (hb:attributeBase e f X.env (eval e X.env)=eval e X.env):PE X (.Attribute e f pos) (tFld X.K ta f):=by
 intro pins s σ H Q I h
 refine attr_of hb (thn (he pins s σ H _ I h) fun u s1 ⟨x,H1,I1,rx,a,C,dx,fs,v,ex,ea,c,n,l,q⟩=>?_)
 subst ex
 obtain rfl:u=Value.ref a:=rx
 exact getattr_ok I1 ea c n l fun u' s2 I2 ru=>⟨v,H1,I2,ru,q⟩
theorem ps_fld (ha:PE X o ta) (hv:PE X value tv) (hs:swapsWith value (some (.Attribute o f pos')) pos.line X.env=pure false):PS X (.Assign [.Attribute o f pos'] value pos) (sFld X.K ta tv f):=by
 intro pins s σ H D I h
 refine plainObj_wpAny_Assign_Attribute (thn (hv pins s σ H _ I h) fun u s1 ⟨y,H1,I1,ry,q⟩=>thn (ha pins s1 σ H1 _ I1 q) fun ov s2 ⟨x,H2,I2,rx,a,C,dx,fs,ex,ea,c,n,l,q2⟩=>?_) hs
 subst ex
 obtain rfl:ov=Value.ref a:=rx
 exact setattr_ok I2 ea c n l ry fun s3 I3=>⟨σ,_,I3,q2⟩
theorem ps_fldaug {op:Operator} {rd:V->V->Hp->VK->Prop} (ha:PE X o ta) (hv:PE X value tv) (hop:InOp X op rd):PS X (.AugAssign (.Attribute o f tpos) op value pos) (sFldAug X.K ta tv rd f):=by
 intro pins s σ H D I h
 refine wpAny_AugAssign_AttributeAny (thn (ha pins s σ H _ I h) fun ov s1 ⟨x,H1,I1,rx,a,C,dx,fs,v,ex,ea,c,n,l,q⟩=>?_)
 subst ex
 obtain rfl:ov=Value.ref a:=rx
 refine getattr_ok I1 ea c n l fun u s2 I2 ru=>thn (hv pins s2 σ H1 _ I2 q) fun w3 s3 ⟨y,H2,I3,ry,q3⟩=>thn (hop pins s3 σ H2 v y u w3 _ I3 ru ry q3) fun w4 s4 ⟨z,H3,I4,rz,dx',fs',ea',l',q4⟩=>?_
 exact setattr_ok I4 ea' c n l' rz fun s5 I5=>⟨σ,_,I5,q4⟩
def rAdd:V->V->Hp->VK->Prop:=fun x y H Q=>∃ i j,x=.int i/\y=.int j/\Q (.int (i+j)) H
def rSub:V->V->Hp->VK->Prop:=fun x y H Q=>∃ i j,x=.int i/\y=.int j/\Q (.int (i-j)) H
theorem in_add:InOp X .Add rAdd:=by
 rintro pins s σ H x y u v Q I rx ry ⟨i,j,rfl,rfl,q⟩
 obtain ⟨t,rfl⟩:=(show ∃ t,u=Value.int i t from rx)
 obtain ⟨t',rfl⟩:=(show ∃ t',v=Value.int j t' from ry)
 exact PyProof.Rows.iadd_int ⟨.int (i+j),H,I.tok _,⟨_,rfl⟩,q⟩
theorem in_sub:InOp X .Sub rSub:=by
 rintro pins s σ H x y u v Q I rx ry ⟨i,j,rfl,rfl,q⟩
 obtain ⟨t,rfl⟩:=(show ∃ t,u=Value.int i t from rx)
 obtain ⟨t',rfl⟩:=(show ∃ t',v=Value.int j t' from ry)
 exact PyProof.Rows.isub_int ⟨.int (i-j),H,I.tok _,⟨_,rfl⟩,q⟩
theorem methcall_of {pl:Sem Bool} {m:Str} {apos:Pos} {args:List Expr} {pins:List (Addr×Obj)} {s:Shared} {σ:St} {H:Hp} {Q:Value->Shared->Prop} {te:TE} (he:PE X e te) (I:Inv X pins σ H s)
  (h:te σ H fun x H1=>∃ a C dx fs g,x=.ref a/\H1 a=some (.ins C dx fs)/\Cls X.K C/\Meth X.K C m g/\fs.lookup m=none /\
   ∀ s1,Inv X pins σ H1 s1->wpAny (model X.prog X.w) X.A (callWith pos (.ref g) [.ref a] (backTo pos (starEach args X.env)) (backToKw pos (keywordEach [] X.env))) Q X.xe s1)
  (ht:eval (.Call (.Attribute e m apos) args [] pos) X.env=(do
   let ov <- eval e X.env
   standAt apos.atName
   let (f,first) <- holding [ov] (getMethod ov m pl)
   callWith pos f first (backTo pos (starEach args X.env)) (backToKw pos (keywordEach [] X.env)))) :
  wpAny (model X.prog X.w) X.A (eval (.Call (.Attribute e m apos) args [] pos) X.env) Q X.xe s:=by
 refine PySem.W.methodCall_KW (pl:=pl) (thn (he pins s σ H _ I h) fun u s1 ⟨x,H1,I1,rx,a,C,dx,fs,g,ex,ea,c,k,l,q⟩=>?_) ht
 subst ex
 obtain rfl:u=Value.ref a:=rx
 exact getmeth_ok I1 ea c k l (q s1 I1)
end
section
variable {X:Cx} {pins:List (Addr×Obj)} {σ:St} {H:Hp} {s:Shared} {A:Around} {E:Value->Shared->Prop} {Q:Value->Shared->Prop} {c:Value} {b:Bool}
inductive TyOf (K:PySem.W.Frag) (H:Hp):V->Value->Prop where
 | non:TyOf K H .non (.type "NoneType")
 | bl (x:Bool):TyOf K H (.bl x) (.type "bool")
 | int (i:Int):TyOf K H (.int i) (.type "int")
 | str (x:Str):TyOf K H (.str x) (.type "str")
 | flt (x:UInt64):TyOf K H (.flt x) (.type "float")
 | lst {a:Addr} {xs:List V} (e:H a=some (.lst xs)):TyOf K H (.ref a) (.type "list")
 | frz {a:Addr} {o:Obj} {xs:List V} (e:H a=some (.frz o (.lst xs))):TyOf K H (.ref a) (.type "list")
 | tup {a:Addr} {xs:List V} (e:H a=some (.tup xs)):TyOf K H (.ref a) (.type "tuple")
 | dK {a:Addr} {kvs:List (Key×V)} (e:H a=some (.dK kvs)):TyOf K H (.ref a) (.type "dict")
 | dT {a:Addr} {kvs:List (List Key×V)} (e:H a=some (.dT kvs)):TyOf K H (.ref a) (.type "dict")
 | ins {a C dx:Addr} {fs:List (Str×V)} (e:H a=some (.ins C dx fs)) (cl:Cls K C) (ha:PySem.W.findIn K (.ref C) "__class__" = some (some (.builtin "object.__class__")))
   (hn:PySem.W.specialIn K (.builtin "object.__class__") "__get__" = some (some (.builtin "getset_descriptor.__get__"))) (htk:PySem.W.takesIn K (.builtin "object.__class__")=some true)
   (hm:PySem.W.mroIn K C (.type "object")=some true):TyOf K H (.ref a) (.ref C)
theorem isinst_ok {x:V} {u t:Value} (I:Inv X pins σ H s) (rx:RelV x u) (ty:TyOf X.K H x t) (e:PySem.W.kitOne X.K t c=some b) (h:∀ tk,Q (.bool b) { s with toks:=tk }) :
  wpAny (model X.prog X.w) A (call (.builtin "isinstance") [u,c]) Q E s:=by
 cases ty with
 | non=>cases (show u=Value.none from rx); exact PySem.W.kia_one PySem.W.kitx_none I.kIn True.intro e (fun z=>nomatch z) h
 | bl y=>cases (show u=Value.bool y from rx); exact PySem.W.kia_one PySem.W.kitx_bool I.kIn True.intro e (fun z=>nomatch z) h
 | int i=>obtain ⟨t,q⟩:=(show ∃ t,u=Value.int i t from rx); cases q; exact PySem.W.kia_one PySem.W.kitx_int I.kIn True.intro e (fun z=>nomatch z) h
 | str y=>obtain ⟨t,q⟩:=(show ∃ t,u=Value.str y t from rx); cases q; exact PySem.W.kia_one PySem.W.kitx_str I.kIn True.intro e (fun z=>nomatch z) h
 | flt y=>obtain ⟨t,q⟩:=(show ∃ t,u=Value.float y t from rx); cases q; exact PySem.W.kia_one PySem.W.kitx_float I.kIn True.intro e (fun z=>nomatch z) h
 | @lst a xs ea =>
  cases (show u=Value.ref a from rx)
  obtain ⟨_,_,n,_,h1⟩:=(show ObjOk X.prog X.w H s.heap a (.lst xs) from I.hok a _ ea)
  exact PySem.W.kia_one PySem.W.kitx_list I.kIn ⟨_,h1,rfl⟩ e (fun z=>nomatch z) h
 | @frz a ob xs ea =>
  cases (show u=Value.ref a from rx)
  obtain ⟨_,_,_,n,_,h1⟩:=(show ObjOk X.prog X.w H s.heap a (.frz ob (.lst xs)) from I.hok a _ ea)
  exact PySem.W.kia_one PySem.W.kitx_list I.kIn ⟨_,h1,rfl⟩ e (fun z=>nomatch z) h
 | @tup a xs ea =>
  cases (show u=Value.ref a from rx)
  obtain ⟨_,_,_,p⟩:=(show ObjOk X.prog X.w H s.heap a (.tup xs) from I.hok a _ ea)
  obtain ⟨o,h1,h2,_⟩:=p
  exact PySem.W.kia_one PySem.W.kitx_tuple I.kIn ⟨o,h1,h2⟩ e (fun z=>nomatch z) h
 | @dK a kvs ea =>
  cases (show u=Value.ref a from rx)
  obtain ⟨_,_,vs,_,p⟩:=(show ObjOk X.prog X.w H s.heap a (.dK kvs) from I.hok a _ ea)
  obtain ⟨o,es,ep,h1,h2,_⟩:=p
  exact PySem.W.kia_one PySem.W.kitx_dict I.kIn ⟨o,h1,h2.1⟩ e (fun z=>nomatch z) h
 | @dT a kvs ea =>
  cases (show u=Value.ref a from rx)
  obtain ⟨_,_,xs,_,o,es,ep,h1,h2,_⟩:=(show ObjOk X.prog X.w H s.heap a (.dT kvs) from I.hok a _ ea)
  exact PySem.W.kia_one PySem.W.kitx_dict I.kIn ⟨o,h1,h2.1⟩ e (fun z=>nomatch z) h
 | @ins a C dx fs ea cl ha hn htk hm =>
  cases (show u=Value.ref a from rx)
  obtain ⟨mA,O,_⟩:=ins_get I.hok ea
  obtain ⟨od,J,_⟩:=O.look
  exact PySem.W.kia_one (PySem.W.kitx_own (cl.get _) cl.hd ha hn htk hm) I.kIn J e (fun z=>nomatch z) h
end
end L2
namespace L2
open PySem PySem.Spec PyProof.Rows
structure Room (k:Nat) (A:Around):Prop where
 hd:A.handled=none
 dp:A.depth+3 * k+5 < recursionLimit
 un:A.units+16 * k+200 < cLine
theorem Room.mono {j k:Nat} {A:Around} (r:Room k A) (h:j<=k):Room j A:=⟨r.hd,by have:=r.dp; omega,by have:=r.un; omega⟩
theorem Room.deeper {k:Nat} {A:Around} (r:Room (k+1) A) (env:Env):Room k (A.deeper env) :=
 ⟨r.hd,by have:=r.dp; show A.depth+1+3 * k+5 < _; omega,by have:=r.un; show A.units+3+16 * k+200 < _; omega⟩
theorem make_depth {A:Around} {C:Addr} {us:List Value} {kw:List (Str×Value)}:(A.under (.builtin "type.__call__" ⟨.ref C :: us,kw⟩)).depth=A.depth+1:=by
 first | rfl | simp [Around.under,Code.weight,Code.isCreation,Code.isGuard,Code.isCaller,Code.frames,Code.isFrame,guardIds]
theorem make_units {A:Around} {C:Addr} {us:List Value} {kw:List (Str×Value)}:(A.under (.builtin "type.__call__" ⟨.ref C :: us,kw⟩)).units=A.units+1:=by
 first | rfl | simp [Around.under,Code.cUnits,Code.frames,Code.isFrame]
theorem Room.make {k:Nat} {A:Around} (r:Room (k+1) A) (C:Addr) (us:List Value) (kw:List (Str×Value)):Room k (A.under (.builtin "type.__call__" ⟨.ref C :: us,kw⟩)) :=
 ⟨r.hd,by have:=r.dp; rw [make_depth]; omega,by have:=r.un; rw [make_units]; omega⟩
theorem Room.depth {k:Nat} {A:Around} (r:Room k A):A.depth < recursionLimit:=by have:=r.dp; omega
theorem Room.units {k:Nat} {A:Around} (r:Room k A):A.units+64 < cLine:=by have:=r.un; omega
def tNil:TA:=fun _ H Q=>Q [] H
def tCons (ta:TE) (tr:TA):TA:=fun σ H Q=>ta σ H fun x H1=>tr σ H1 fun xs H2=>Q (x :: xs) H2
section
variable {X:Cx} {e:Expr} {es:List Expr} {te:TE} {t:TA} {pos:Pos}
theorem pa_nil:PA X [] tNil:=fun _ _ _ _ H Q I h=>Calls.spliced_nil ⟨[],H,I,.nil,h⟩
theorem pa_cons (ha:PE X e te) (hr:PA X es t) (hs:starEach (e :: es) X.env=(false,eval e X.env) :: starEach es X.env:=by rfl):PA X (e :: es) (tCons te t):=by
 intro pos pins s σ H Q I h
 rw [hs]
 show wpAny _ _ (spliced ((false,eval e X.env) :: backTo pos (starEach es X.env))) _ _ s
 refine Calls.spliced_cons (thn (ha pins s σ H _ I h) fun u s1 ⟨x,H1,I1,r1,q1⟩=>?_)
 exact thn (hr pos pins s1 σ H1 _ I1 q1) fun us s2 ⟨xs,H2,I2,r2,q2⟩=>⟨x :: xs,H2,I2,.cons r1 r2,q2⟩
def tTup (t:TA):TE:=fun σ H Q=>t σ H fun xs H1=>xs.length<=sizeLine/\∀ p,H1 p=none->Q (.ref p) (upd H1 p (.tup xs))
def tLst (t:TA):TE:=fun σ H Q=>t σ H fun xs H1=>xs.length<=sizeLine/\∀ p,H1 p=none->Q (.ref p) (upd H1 p (.lst xs))
theorem pe_tup {x1} (h:PA X es t):PE X (.Tuple es x1 pos) (tTup t):=by
 intro pins s σ H Q I hq
 refine wpAny_Tuple_spliced (thn (h pos pins s σ H _ I hq) fun us s1 ⟨xs,H1,I1,r,z,q⟩=>⟨by rw [<- r.length]; exact z,?_⟩)
 have hf:H1 s1.heap.objs.size=none:=I1.hok.fresh (Nat.le_refl _)
 refine ⟨.ref s1.heap.objs.size,upd H1 s1.heap.objs.size (.tup xs),I1.laid (t':=s1.toks) (fun b u e=>Heap.get?_push_of_some _ e) (Nat.le_refl _) ?_,rfl,q _ hf⟩
 exact ⟨z,us,r,⟨_,Heap.get?_push_size _ rfl,rfl,_,rfl⟩⟩
theorem pe_lst (h:PA X es t):PE X (.List es pos) (tLst t):=by
 intro pins s σ H Q I hq
 refine wpAny_List_spliced (thn (h pos pins s σ H _ I hq) fun us s1 ⟨xs,H1,I1,r,z,q⟩=>⟨by rw [<- r.length]; exact z,?_⟩)
 have hf:H1 s1.heap.objs.size=none:=I1.hok.fresh (Nat.le_refl _)
 refine ⟨.ref s1.heap.objs.size,upd H1 s1.heap.objs.size (.lst xs),I1.laid (t':=s1.toks) (fun b u e=>Heap.get?_push_of_some _ e) (Nat.le_refl _) ?_,rfl,q _ hf⟩
 exact ⟨z,us,0,r,Heap.get?_push_size _ rfl⟩
end
abbrev Sp:=List V->Hp->VK->XK->Prop
abbrev CXT:=List Env->Hp->Shared->XK->Value->Shared->Prop
structure Env0 (P:Program) (w:World) (K:PySem.W.Frag) (mg:Str->Option Value) (base:Heap) (A:Around) (outer:List Env) (s:Shared) (H:Hp):Prop where
 frames:A.frames=some outer
 mod:Mod K mg base
 bs:∀ b o,base.get? b=some o->s.heap.get? b=some o/\H b=none
 bsz:base.objs.size<=s.heap.objs.size
 funs:s.heap.FunFrames base outer
 frf:∀ b ∈ frs outer,H b=none
 hok:HOk P w H s.heap
 bare:AllBare s.gens
def CE (outer:List Env) (P:Program) (w:World) (H:Hp) (s:Shared) (Q:VK) (u:Value) (s':Shared):Prop :=
 ∃ v H',s'.os=s.os/\AllBare s'.gens/\Un (frs outer) [] H H' s.heap s'.heap/\HOk P w H' s'.heap/\RelV v u/\Q v H'
def CR (CX:CXT) (outer:List Env) (P:Program) (w:World) (H:Hp) (s:Shared) (Q:VK) (E:XK) (r:Result) (s':Shared):Prop :=
 match r with
 | .ok (.ret u)=>CE outer P w H s Q u s'
 | .ok _=>False
 | .error e=>CX outer H s E e s'
structure FnOk (P:Program) (w:World) (K:PySem.W.Frag) (mg:Str->Option Value) (base:Heap) (CX:CXT) (k:Nat) (f:Addr) (fd:FuncData) (ps:List Str) (sp:Sp):Prop where
 len:∀ vs H Q E,sp vs H Q E->vs.length=ps.length
 run:∀ (A:Around) (outer:List Env) (s:Shared) (H:Hp) (args:Args) (us:List Value) (vs:List V) (Q:VK) (E:XK),Room k A->Env0 P w K mg base A outer s H->BindsTo s fd args (ps.zip us)->Vals vs us->sp vs H Q E ->
  codeAny (model P w) A (.call (.ref f) args) (CR CX outer P w H s Q E) s
theorem FnOk.mono {P:Program} {w:World} {K:PySem.W.Frag} {mg:Str->Option Value} {base:Heap} {CX:CXT} {j k:Nat} {f:Addr} {fd:FuncData} {ps:List Str} {sp:Sp} (F:FnOk P w K mg base CX j f fd ps sp) (h:j<=k) :
  FnOk P w K mg base CX k f fd ps sp:=⟨F.len,fun A outer s H args us vs Q E hr=>F.run A outer s H args us vs Q E (hr.mono h)⟩
theorem Env0.make {P:Program} {w:World} {K:PySem.W.Frag} {mg:Str->Option Value} {base:Heap} {A:Around} {outer:List Env} {s:Shared} {H:Hp} (e:Env0 P w K mg base A outer s H) (C:Addr) (us:List Value) (kw:List (Str×Value)) :
  Env0 P w K mg base (A.under (.builtin "type.__call__" ⟨.ref C :: us,kw⟩)) outer s H:=⟨by first | exact e.frames | (simpa [Around.under,Code.envs,Code.isFrame,pushEnvs] using e.frames),e.mod,e.bs,e.bsz,e.funs,e.frf,e.hok,e.bare⟩
section
variable {X:Cx} {pins:List (Addr×Obj)} {σ:St} {H:Hp} {s s':Shared}
theorem Inv.env0 (I:Inv X pins σ H s):Env0 X.prog X.w X.K X.mg X.base X.A X.stack s H :=
 ⟨I.ok.frames,I.ok.mod,I.bs,Nat.le_trans I.ok.bsz I.sz,I.stack,I.stkFree,I.hok,I.bare⟩
theorem Inv.after {Q:VK} {u:Value} (I:Inv X pins σ H s) (h:CE X.stack X.prog X.w H s Q u s'):EP X pins σ Q u s':=by
 obtain ⟨v,H',os,bare,un,hok,r,q⟩:=h
 obtain ⟨hh,g,d,t,os'⟩:=s'
 obtain rfl:os'=s.os:=os
 exact ⟨v,H',I.call (h':=hh) (g':=g) (d':=d) (t':=t) (ch:=[]) un hok bare (fun b z=>absurd z (by simp)),r,q⟩
end
def tCall (sp:Sp) (dvs:List V) (E:XK) (t:TA):TE:=fun σ H Q=>t σ H fun vs H1=>sp (vs++dvs) H1 Q E
def tMeth (C:Addr) (m:Str) (sp:Sp) (dvs:List V) (E:XK) (ta:TE) (t:TA):TE:=fun σ H Q=>ta σ H fun x H1=>∃ a dx fs,x=.ref a/\H1 a=some (.ins C dx fs)/\fs.lookup m=none /\
 t σ H1 fun vs H2=>sp (x :: (vs++dvs)) H2 Q E
def tMake (C:Addr) (sp:Sp) (dvs:List V) (E:XK) (t:TA):TE:=fun σ H Q=>t σ H fun vs H1=>∀ x dx,H1 x=none->H1 dx=none->dx≠x ->
 sp (.ref x :: (vs++dvs)) (upd (upd H1 dx (.own x)) x (.ins C dx [])) (fun v H2=>v=.non/\Q (.ref x) H2) E
def Binds (K:PySem.W.Frag) (fd:FuncData) (ps:List Str) (ds:List Value):Prop :=
 ∀ (s:Shared) (us:List Value),K.In s.heap->(us++ds).length=ps.length->BindsTo s fd ⟨us,[]⟩ (ps.zip (us++ds))
theorem Binds.all {K:PySem.W.Frag} {fd:FuncData} {ps:List Str} (h:∀ us:List Value,us.length=ps.length->bindArgs fd ⟨us,[]⟩=pure (ps.zip us)):Binds K fd ps []:=fun s us _ hl=>by
 rw [List.append_nil] at hl ⊢
 exact .of_eq (h us hl)
def Passes (CX:CXT) (X:Cx) (E:XK):Prop:=∀ (pins:List (Addr×Obj)) (σ:St) (H:Hp) (s:Shared) (e:Value) (s':Shared),Inv X pins σ H s->CX X.stack H s E e s'->X.xe e s'
section
variable {X:Cx} {CX:CXT} {k:Nat} {f C:Addr} {fd:FuncData} {ps:List Str} {sp:Sp} {dvs:List V} {ds:List Value} {E:XK} {x m:Str} {p pos apos:Pos} {e o:Expr} {es:List Expr} {ta:TE} {t:TA}
theorem run_fn {pins:List (Addr×Obj)} {σ:St} {H:Hp} {s:Shared} {Q:VK} {us:List Value} {vs:List V} (F:FnOk X.prog X.w X.K X.mg X.base CX k f fd ps sp) (hr:Room k X.A) (hb:Binds X.K fd ps ds) (hd:Vals dvs ds) (hx:Passes CX X E)
  (I:Inv X pins σ H s) (r:Vals vs us) (h:sp (vs++dvs) H Q E):wpAny (model X.prog X.w) X.A (call (.ref f) us) (EP X pins σ Q) X.xe s:=by
 have r2:Vals (vs++dvs) (us++ds):=r.append hd
 have hl:(us++ds).length=ps.length:=by rw [<- r2.length]; exact F.len _ _ _ _ h
 refine wpAny_call (codeAny_mono (F.run X.A X.stack s H ⟨us,[]⟩ (us++ds) (vs++dvs) Q E hr I.env0 (hb s us I.kIn hl) r2 h) fun r s' hq=>?_)
 cases r with
 | error e=>exact hx pins σ H s e s' I hq
 | ok fl =>
  cases fl with
  | ret u=>exact I.after hq
  | next=>exact False.elim hq
  | brk=>exact False.elim hq
  | cont=>exact False.elim hq
theorem pe_call (F:FnOk X.prog X.w X.K X.mg X.base CX k f fd ps sp) (hr:Room k X.A) (hg:Gl X x) (hm:X.mg x=some (.ref f)) (hk:PySem.W.keepIn X.K (.ref f)=true) (hb:Binds X.K fd ps ds) (hd:Vals dvs ds) (hx:Passes CX X E)
  (ha:PA X (e :: es) t) (hdb:(x == ("__debug__" : Str))=false:=by decide) (he:starEach (e :: es) X.env=(false,eval e X.env) :: starEach es X.env:=by rfl) (hpl:(backTo pos (starEach es X.env)).any (·.1)=false:=by rfl) :
  PE X (.Call (.Name x p) (e :: es) [] pos) (tCall sp dvs E t):=by
 intro pins s σ H Q I h
 refine wpAny_Call_Name_kw (ld_glob I hg hm ?_ hdb)
 refine PySem.W.callWith_K (h₀:=X.base) I.ok.mod.kin hk (thn (ha pos pins s σ H _ I h) fun us s1 ⟨vs,H1,I1,r,q⟩=>⟨I1.kIn,?_⟩) he hpl
 exact run_fn F hr hb hd hx I1 r q
theorem pe_meth {pl:Sem Bool} (he:PE X o ta) (c:Cls X.K C) (hm:Meth X.K C m f) (F:FnOk X.prog X.w X.K X.mg X.base CX k f fd ps sp) (hr:Room k X.A) (hb:Binds X.K fd ps ds) (hd:Vals dvs ds) (hx:Passes CX X E) (ha:PA X (e :: es) t)
  (hst:starEach (e :: es) X.env=(false,eval e X.env) :: starEach es X.env:=by rfl) (hpl:(backTo pos (starEach es X.env)).any (·.1)=false:=by rfl)
  (ht:eval (.Call (.Attribute o m apos) (e :: es) [] pos) X.env=(do
   let ov <- eval o X.env
   standAt apos.atName
   let (f,first) <- holding [ov] (getMethod ov m pl)
   callWith pos f first (backTo pos (starEach (e :: es) X.env)) (backToKw pos (keywordEach [] X.env))):=by rfl) :
  PE X (.Call (.Attribute o m apos) (e :: es) [] pos) (tMeth C m sp dvs E ta t):=by
 intro pins s σ H Q I h
 refine PySem.W.methodCall_KW (pl:=pl) (thn (he pins s σ H _ I h) fun u s1 ⟨x,H1,I1,rx,a,dx,fs,ex,ea,l,q⟩=>?_) ht
 subst ex
 obtain rfl:u=Value.ref a:=rx
 refine getmeth_ok I1 ea c hm l ?_
 refine PySem.W.callWith_K (first:=[.ref a]) (h₀:=X.base) I.ok.mod.kin hm.kp (thn (ha pos pins s1 σ H1 _ I1 q) fun us s2 ⟨vs,H2,I2,r,q2⟩=>⟨I2.kIn,?_⟩) hst hpl
 exact run_fn (us:=.ref a :: us) (vs:=.ref a :: vs) F hr hb hd hx I2 (.cons rfl r) q2
theorem pe_meth0 {pl:Sem Bool} (he:PE X o ta) (c:Cls X.K C) (hm:Meth X.K C m f) (F:FnOk X.prog X.w X.K X.mg X.base CX k f fd ps sp) (hr:Room k X.A) (hb:Binds X.K fd ps ds) (hd:Vals dvs ds) (hx:Passes CX X E)
  (ht:eval (.Call (.Attribute o m apos) [] [] pos) X.env=(do
   let ov <- eval o X.env
   standAt apos.atName
   let (f,first) <- holding [ov] (getMethod ov m pl)
   callWith pos f first (backTo pos (starEach [] X.env)) (backToKw pos (keywordEach [] X.env))):=by rfl) :
  PE X (.Call (.Attribute o m apos) [] [] pos) (tMeth C m sp dvs E ta tNil):=by
 intro pins s σ H Q I h
 refine PySem.W.methodCall_KW (pl:=pl) (thn (he pins s σ H _ I h) fun u s1 ⟨x,H1,I1,rx,a,dx,fs,ex,ea,l,q⟩=>?_) ht
 subst ex
 obtain rfl:u=Value.ref a:=rx
 refine getmeth_ok I1 ea c hm l ?_
 exact PySem.W.callWith_K0 (first:=[.ref a]) I1.kIn hm.kp (run_fn (us:=[.ref a]) (vs:=[.ref a]) F hr hb hd hx I1 (.cons rfl .nil) q)
structure Mk (K:PySem.W.Frag) (C f:Addr):Prop where
 makes:PySem.W.makesIn K C=true
 init:PySem.W.findIn K (.ref C) "__init__" = some (some (.ref f))
 fn:PySem.W.isFn K (.ref f)=true
 kp:PySem.W.keepIn K (.ref C)=true
theorem run_make {pins:List (Addr×Obj)} {σ:St} {H:Hp} {s:Shared} {Q:VK} {us:List Value} {vs:List V} (M:Mk X.K C f) (F:FnOk X.prog X.w X.K X.mg X.base CX k f fd ps sp) (hr:Room (k+1) X.A) (hb:Binds X.K fd ps ds) (hd:Vals dvs ds)
  (hx:Passes CX X E) (I:Inv X pins σ H s) (r:Vals vs us)
  (h:∀ x dx,H x=none->H dx=none->dx≠x->sp (.ref x :: (vs++dvs)) (upd (upd H dx (.own x)) x (.ins C dx [])) (fun v H2=>v=.non/\Q (.ref x) H2) E) :
  wpAny (model X.prog X.w) X.A (call (.ref C) us) (EP X pins σ Q) X.xe s:=by
 have hq:=h (s.heap.objs.size+1) s.heap.objs.size (I.hok.fresh (Nat.le_succ _)) (I.hok.fresh (Nat.le_refl _)) (Nat.ne_of_lt (Nat.lt_succ_self _))
 have I2:=Inv.made (C:=C) I
 have r2:Vals (V.ref (s.heap.objs.size+1) :: (vs++dvs)) (Value.ref (s.heap.objs.size+1) :: (us++ds)):=.cons rfl (r.append hd)
 have hl:(Value.ref (s.heap.objs.size+1) :: us++ds).length=ps.length:=by
  have e:=r2.length
  rw [F.len _ _ _ _ hq] at e
  exact e.symm
 refine wpAny_call (make_map (f:=f) I.kIn M.makes M.init (beq_iff_eq.mp M.fn) (codeAny_mono (F.run _ X.stack _ _ ⟨Value.ref (s.heap.objs.size+1) :: us,[]⟩ (Value.ref (s.heap.objs.size+1) :: (us++ds)) _ _ E (hr.make C us [])
  (I2.env0.make C us []) (hb _ (Value.ref (s.heap.objs.size+1) :: us) I2.kIn hl) r2 hq) fun r s' hq'=>?_))
 cases r with
 | error e=>exact hx pins σ _ _ e s' I2 hq'
 | ok fl =>
  cases fl with
  | ret u =>
   obtain ⟨v,H',I3,rv,ev,q3⟩:=I2.after hq'
   subst ev
   exact ⟨rv,⟨V.ref (s.heap.objs.size+1),H',I3,rfl,q3⟩⟩
  | next=>exact False.elim hq'
  | brk=>exact False.elim hq'
  | cont=>exact False.elim hq'
theorem pe_make (M:Mk X.K C f) (F:FnOk X.prog X.w X.K X.mg X.base CX k f fd ps sp) (hr:Room (k+1) X.A) (hg:Gl X x) (hm:X.mg x=some (.ref C)) (hb:Binds X.K fd ps ds) (hd:Vals dvs ds) (hx:Passes CX X E)
  (ha:PA X (e :: es) t) (hdb:(x == ("__debug__" : Str))=false:=by decide) (he:starEach (e :: es) X.env=(false,eval e X.env) :: starEach es X.env:=by rfl) (hpl:(backTo pos (starEach es X.env)).any (·.1)=false:=by rfl) :
  PE X (.Call (.Name x p) (e :: es) [] pos) (tMake C sp dvs E t):=by
 intro pins s σ H Q I h
 refine wpAny_Call_Name_kw (ld_glob I hg hm ?_ hdb)
 refine PySem.W.callWith_K (h₀:=X.base) I.ok.mod.kin M.kp (thn (ha pos pins s σ H _ I h) fun us s1 ⟨vs,H1,I1,r,q⟩=>⟨I1.kIn,?_⟩) he hpl
 exact run_make M F hr hb hd hx I1 r q
end
section
variable {X:Cx} {CX:CXT} {k:Nat} {f C:Addr} {fd:FuncData} {ps ks:List Str} {sp:Sp} {E:XK} {x m:Str} {p pos apos kpos:Pos} {e o:Expr} {es:List Expr} {kws:List Keyword} {te ta:TE} {t tk:TA} {nm:Option Str}
variable {g:List Value->List Value->List Value} {gV:List V->List V->List V}
end
structure FnScope (N P:List Str) (sc:Scope):Prop where
 kind:sc.kind=.function
 co:sc.isCoroutine=false
 gen:sc.isGenerator=false
 nd:N.Nodup
 pre:N.take P.length=P
 par:∀ x ∈ P,sc.names.lookup x=some .local\/sc.names.lookup x=some .cell
 nofree:∀ y ∈ sc.names,y.2≠.free
theorem bindL_out {kindOf:Str->Option NameKind} {x:Str}:∀ {binds:List (Str×Value)} {m:Str->Option Value},(∀ v,(x,v) ∉ binds)->bindL kindOf binds m x=m x
 | [],_,_=>rfl
 | (n,v) :: r,m,h=>by
  unfold bindL
  rw [bindL_out fun w hw=>h w (List.mem_cons_of_mem _ hw)]
  split
  ·have:x≠n:=by rintro rfl; exact h v List.mem_cons_self
   simp [this]
  ·rfl
theorem bindC_out {kindOf:Str->Option NameKind} {x:Str}:∀ {binds:List (Str×Value)} {m:Str->Option Value},(∀ v,(x,v) ∉ binds)->bindC kindOf binds m x=m x
 | [],_,_=>rfl
 | (n,v) :: r,m,h=>by
  unfold bindC
  rw [bindC_out fun w hw=>h w (List.mem_cons_of_mem _ hw)]
  split
  ·rfl
  ·have:x≠n:=by rintro rfl; exact h v List.mem_cons_self
   simp [this]
theorem bindL_get {kindOf:Str->Option NameKind} {x:Str} {v:Value}:∀ {P:List Str} {vs:List Value} {i:Nat} {m:Str->Option Value},P.Nodup->P[i]?=some x->vs[i]?=some v->kindOf x=some .local ->
  bindL kindOf (P.zip vs) m x=some v
 | [],_,_,_,_,h,_,_=>by simp at h
 | _ :: _,[],_,_,_,_,h,_=>by simp at h
 | p :: P,w :: vs,0,m,nd,h1,h2,hk=>by
  simp at h1 h2; subst h1; subst h2
  show bindL kindOf ((p,w) :: P.zip vs) m p=_
  unfold bindL
  rw [bindL_out fun v hv=>(List.nodup_cons.mp nd).1 (List.of_mem_zip hv).1,if_pos hk]
  simp
 | p :: P,w :: vs,i+1,m,nd,h1,h2,hk=>by
  show bindL kindOf ((p,w) :: P.zip vs) m x=_
  unfold bindL
  exact bindL_get (i:=i) (List.nodup_cons.mp nd).2 (by simpa using h1) (by simpa using h2) hk
theorem bindC_get {kindOf:Str->Option NameKind} {x:Str} {v:Value}:∀ {P:List Str} {vs:List Value} {i:Nat} {m:Str->Option Value},P.Nodup->P[i]?=some x->vs[i]?=some v->kindOf x≠some .local ->
  bindC kindOf (P.zip vs) m x=some v
 | [],_,_,_,_,h,_,_=>by simp at h
 | _ :: _,[],_,_,_,_,h,_=>by simp at h
 | p :: P,w :: vs,0,m,nd,h1,h2,hk=>by
  simp at h1 h2; subst h1; subst h2
  show bindC kindOf ((p,w) :: P.zip vs) m p=_
  unfold bindC
  rw [bindC_out fun v hv=>(List.nodup_cons.mp nd).1 (List.of_mem_zip hv).1,if_neg hk]
  simp
 | p :: P,w :: vs,i+1,m,nd,h1,h2,hk=>by
  show bindC kindOf ((p,w) :: P.zip vs) m x=_
  unfold bindC
  exact bindC_get (i:=i) (List.nodup_cons.mp nd).2 (by simpa using h1) (by simpa using h2) hk
def start (N:List Str) (vs:List V):St:=vs.map some++List.replicate (N.length-vs.length) none
def cxOf (CX:CXT) (P:Program) (w:World) (K:PySem.W.Frag) (mg:Str->Option Value) (base:Heap) (N:List Str) (qual:Str) (scope:Scope) (f:Addr) (cd:Value) (A:Around) (outer:List Env) (s:Shared) (H:Hp) (E:XK):Cx where
 prog:=P
 w:=w
 K:=K
 mg:=mg
 base:=base
 A:=A.deeper (envOfC qual scope s.heap.objs.size f cd)
 N:=N
 s_0:=s
 H_0:=H
 env:=envOfC qual scope s.heap.objs.size f cd
 outer:=outer
 stack:=envOfC qual scope s.heap.objs.size f cd :: outer
 ex:=[]
 calm:=true
 fn:=fun _=>true
 pn:=[]
 xe:=fun e s'=>wpAny (model P w) (A.deeper (envOfC qual scope s.heap.objs.size f cd)) (leaving (envOfC qual scope s.heap.objs.size f cd) e) (fun _ s''=>CX outer H s E e s'') (fun e' s''=>CX outer H s E e' s'') s'
theorem cell_has {sc:Scope} {n:Nat} {x:Str} (h:sc.names.lookup x=some .cell):∃ c,(cellsFrom n sc.names []).lookup x=some c:=by
 have q:=PySem.W.cellsFrom_some sc.names n [] (.inl h)
 exact Option.isSome_iff_exists.mp q
theorem inv_start {CX:CXT} {P:Program} {w:World} {K:PySem.W.Frag} {mg:Str->Option Value} {base:Heap} {N ps:List Str} {qual:Str} {scope:Scope} {f:Addr} {cd:Value} {A:Around} {outer:List Env} {s s1:Shared} {H:Hp} {E:XK} {us:List Value} {vs:List V}
  (S:FnScope N ps scope) (hd:A.handled=none) (e0:Env0 P w K mg base A outer s H) (hl:vs.length=ps.length) (r:Vals vs us)
  (x:InCallC s s.heap.objs.size (bindL (envOfC qual scope s.heap.objs.size f cd).kindOf (ps.zip us) fun _=>none) (cellsFrom (s.heap.objs.size+1) scope.names []) (bindC (envOfC qual scope s.heap.objs.size f cd).kindOf (ps.zip us) fun _=>none) s1) :
  Inv (cxOf CX P w K mg base N qual scope f cd A outer s H E) [] (start N vs) H s1:=by
 have hpl:ps.length<=N.length:=by have:=congrArg List.length S.pre; rw [List.length_take] at this; omega
 obtain ⟨h1,tk,rfl,hk⟩:=x.done
 have noA:∀ b:Addr,b ∉ (cxOf CX P w K mg base N qual scope f cd A outer s H E).ex:=fun b z=>absurd (show b ∈ ([]:List Addr) from z) (by simp)
 refine ⟨⟨e0.mod,S.kind,rfl,rfl,Nat.le_refl _,fun y z c h1 h2=>?_,fun y hy=>?_,fun y c _ h=>?_,fun _=>hd,Around.frames_deeper e0.frames,.inr ⟨rfl,rfl⟩,fun b z=>absurd z (noA b),e0.bs,e0.bsz,fun b _ _=>noA b,fun b z=>absurd z (noA b),e0.funs,e0.frf⟩,
  rfl,e0.bare,Un.kept hk,⟨_,x.toInCall.ns,fun i y v h1 h2 h3=>?_⟩,fun y c h=>⟨_,x.cell y c h⟩,e0.hok.fresh (Nat.le_refl _),fun y c h=>?_,fun p hp=>absurd (show p ∈ ([]:List (Addr×Obj)) from hp) (by simp),e0.hok.kept hk,?_⟩
 ·exact name_of_addr x.apart (PySem.mem_of_lookup h1) (PySem.mem_of_lookup h2)
 ·have hy:scope.names.lookup y=some .cell\/scope.names.lookup y=some .free:=hy
  rcases hy with hy | hy
  ·exact cell_has hy
  ·exact absurd rfl (S.nofree _ (PySem.mem_of_lookup hy))
 ·exact Nat.le_of_lt (x.above y c (PySem.mem_of_lookup h))
 ·have hi:i < vs.length:=by
   unfold start at h2
   by_cases hi:i < vs.length
   ·exact hi
   ·rw [List.getElem?_append_right (by simpa using hi)] at h2
    rw [List.getElem?_replicate] at h2
    split at h2 <;> cases h2
  have ha:vs[i]?=some v:=by
   unfold start at h2
   rw [List.getElem?_append_left (by simpa using hi),List.getElem?_map] at h2
   cases e:vs[i]? with
   | none=>rw [e] at h2; cases h2
   | some a=>rw [e] at h2; cases h2; rfl
  obtain ⟨u,hu,rv⟩:=r.get ha
  have hp:ps[i]?=some y:=by
   rw [<- S.pre,List.getElem?_take_of_lt (by omega)]; exact h1
  have ndP:ps.Nodup:=by rw [<- S.pre]; exact S.nd.sublist (List.take_sublist _ _)
  refine ⟨u,rv,?_⟩
  rcases S.par y (List.mem_of_getElem? hp) with k | k
  ·exact .inl ⟨k,bindL_get ndP hp hu k⟩
  ·obtain ⟨c,e⟩:=cell_has (n:=s.heap.objs.size+1) k
   refine .inr ⟨.inl k,c,e,?_⟩
   have q:=x.cell y c e
   rw [bindC_get ndP hp hu (by show scope.names.lookup y≠_; rw [k]; decide)] at q
   exact q
 ·exact e0.hok.fresh (Nat.le_of_lt (x.above y c (PySem.mem_of_lookup h)))
 ·unfold start
  show _=N.length
  rw [List.length_append,List.length_map,List.length_replicate]
  omega
theorem fn_of {CX:CXT} {P:Program} {w:World} {K:PySem.W.Frag} {mg:Str->Option Value} {base:Heap} {k:Nat} {f:Addr} {name qual:Str} {params:Arguments} {body:List Stmt} {scope:Scope} {dV kV doc pm cdv ct oc:Value} {an od:Option Addr}
  {osl:Array (Option Value)} {N ps:List Str} {sp:Sp} (lk:K.lookup f=some ⟨oc,od,.func (PySem.W.fnOf name qual params body scope dV kV doc pm an cdv ct),osl⟩) (hcd:PySem.W.codeIn K cdv qual=true) (S:FnScope N ps scope)
  (len:∀ vs H Q E,sp vs H Q E->vs.length=ps.length)
  (hbody:∀ (A:Around) (outer:List Env) (s:Shared) (H:Hp) (vs:List V) (Q:VK) (E:XK),Room k (A.deeper (envOfC qual scope s.heap.objs.size f cdv))->sp vs H Q E ->
   ∃ t,PSs (cxOf CX P w K mg base N qual scope f cdv A outer s H E) body t/\t { nx:=fun _ H'=>Q .non H',rt:=Q } (start N vs) H) :
  FnOk P w K mg base CX (k+1) f (PySem.W.fnOf name qual params body scope dV kV doc pm an cdv ct) ps sp:=by
 refine ⟨len,fun A outer s H args us vs Q E hr e0 hb r hsp=>?_⟩
 have hl:=len _ _ _ _ hsp
 have KX:K.In s.heap:=e0.mod.kin.keeps fun b o e=>(e0.bs b o e).1
 have lim:s.heap.NoLimit:=e0.mod.nolimit.keeps fun b o e=>(e0.bs b o e).1
 have hkind:∀ y ∈ ps.zip us,scope.names.lookup y.1=some .local\/(scope.names.lookup y.1=some .cell/\((cellsFrom (s.heap.objs.size+1) scope.names []).lookup y.1).isSome=true):=fun ⟨n,v⟩ hy=>by
  rcases S.par n (List.of_mem_zip hy).1 with q | q
  ·exact .inl q
  ·exact .inr ⟨q,PySem.W.cellsFrom_some _ _ _ (.inl q)⟩
 refine codeAny_call_function hr.depth (KX _ _ lk) rfl S.co S.gen rfl (PySem.W.codeRec_of KX hcd) (hb _ _ _ _ ?_)
 refine wpAny_newFunctionEnv_cells S.kind hkind fun env he s1 x=>?_
 subst he
 refine ⟨lim.keeps x.toInCall.keep,codeAny_func ?_⟩
 obtain ⟨t,ht,hq⟩:=hbody A outer s H vs Q E (hr.deeper _) hsp
 have I:Inv (cxOf CX P w K mg base N qual scope f cdv A outer s H E) [] (start N vs) H s1:=inv_start S hr.hd e0 hl r x
 refine wpAny_mono (ht [] s1 (start N vs) H _ I hq) (fun fl s' hs=>?_) fun e s' hs=>hs
 have fin:∀ {σ':St} {H':Hp} {v:V} {u:Value},Inv (cxOf CX P w K mg base N qual scope f cdv A outer s H E) [] σ' H' s'->RelV v u->Q v H'->CE outer P w H s Q u s' :=
  fun {σ' H' v u} J rv q=>⟨v,H',J.os,J.bare,J.base,J.hok,rv,q⟩
 cases fl with
 | ret u =>
  obtain ⟨v,σ',H',J,rv,q⟩:=hs
  exact fin J rv q
 | next =>
  obtain ⟨σ',H',J,q⟩:=hs
  exact fin (v:=V.non) (u:=Value.none) J rfl q
 | brk =>
  obtain ⟨_,_,_,q⟩:=hs
  exact False.elim q
 | cont =>
  obtain ⟨_,_,_,q⟩:=hs
  exact False.elim q
end L2
namespace L2
open PySem PySem.Spec PyProof.Rows
section
variable {X:Cx} {x:Str} {p pos:Pos} {e:Expr} {es:List Expr} {t:TA} {id T:String} {r:List V->Hp->VK->Prop}
def tCB (r:List V->Hp->VK->Prop) (t:TA):TE:=fun σ H Q=>t σ H fun vs H1=>r vs H1 Q
theorem pe_callB (hc:CallR X (.builtin id) r) (hg:Gl X x) (hm:X.mg x=none) (hv:bootBuiltins x=some (.builtin id)) (ha:PA X (e :: es) t) (hn:x ≠ "__name__" := by decide) (hdb:(x == ("__debug__" : Str))=false:=by decide)
  (he:starEach (e :: es) X.env=(false,eval e X.env) :: starEach es X.env:=by rfl) (hpl:(backTo pos (starEach es X.env)).any (·.1)=false:=by rfl):PE X (.Call (.Name x p) (e :: es) [] pos) (tCB r t):=by
 intro pins s σ H Q I h
 refine wpAny_Call_Name_kw (ld_blt I hg hm hv ?_ hn hdb)
 exact PyProof.Rows.callWith_builtin1 (thn (ha pos pins s σ H _ I h) fun us s1 ⟨vs,H1,I1,r1,q1⟩=>hc pins s1 σ H1 vs us Q I1 r1 q1) he hpl
end
end L2
namespace HT
open PySem PyProof.Rows
section
open PySem.SeqAt
open PySem.AutoSeq1 (wpAny_loadPart')
open PySem.MeetsSeq PySem.MeetsSeq2 PySem.MeetsSeq3
end
section
variable {prog:Program} {w:World} {A:Around} {E:Value->Shared->Prop} {s:Shared}
def sIx (n d:Nat):Option Int->Nat
 | none=>d
 | some v=>if v < 0 then (v+(n:Int)).toNat else min v.toNat n
theorem sIx_nat (n d k:Nat):sIx n d (some (k:Int))=min k n:=by
 show (if (k:Int) < 0 then ((k:Int)+(n:Int)).toNat else min (k:Int).toNat n)=min k n
 rw [if_neg (by omega),Int.toNat_natCast]
end
end HT
namespace L2
open PySem PySem.Spec PyProof.Rows
abbrev TO:=St->Hp->(Option Int->Hp->Prop)->Prop
def PO (X:Cx) (e:Option Expr) (t:TO):Prop :=
 ∀ (pins:List (Addr×Obj)) (s:Shared) (σ:St) (H:Hp) (Q:Option Int->Hp->Prop),Inv X pins σ H s->t σ H Q ->
  wpAny (model X.prog X.w) X.A (evalPart e X.env) (fun u s'=>∃ o H',Inv X pins σ H' s'/\IsPart u o/\Q o H') X.xe s
def tNoPart:TO:=fun _ H Q=>Q none H
def tPart (t:TE):TO:=fun σ H Q=>t σ H fun x H1=>∃ i,x=.int i/\Q (some i) H1
section
variable {X:Cx} {e:Expr} {te:TE} {lo hi:Option Expr} {tl th:TO} {pos p2:Pos}
theorem po_none:PO X none tNoPart:=by
 intro pins s σ H Q I h
 rw [evalPart_none]
 exact wpAny_pure ⟨none,H,I,.none,h⟩
theorem po_some (h:PE X e te):PO X (some e) (tPart te):=by
 intro pins s σ H Q I hw
 rw [evalPart_some]
 refine thn (h pins s σ H _ I hw) fun u s1 ⟨x,H1,I1,r1,q1⟩=>?_
 obtain ⟨i,rfl,q⟩:=q1
 obtain ⟨t,rfl⟩:=r1
 exact ⟨some i,H1,I1,.int i t,q⟩
def SlR (X:Cx) (r:V->Option Int->Option Int->Hp->VK->Prop):Prop :=
 ∀ (pins:List (Addr×Obj)) (s:Shared) (σ:St) (H:Hp) (x:V) (v vl vu:Value) (lo hi:Option Int) (sl:Addr) (Q:VK),Inv X pins σ H s->RelV x v->s.heap.IsSliceOf sl vl vu .none->IsPart vl lo->IsPart vu hi->r x lo hi H Q ->
  ∃ T id,typeLookup (.type T) "__getitem__" = pure (some (.builtin id))/\s.TypeIs v T/\wpAny (model X.prog X.w) X.A (getItem v (.ref sl)) (EP X pins σ Q) X.xe s
def tSl (r:V->Option Int->Option Int->Hp->VK->Prop) (te:TE) (tl th:TO):TE:=fun σ H Q=>te σ H fun x H1=>tl σ H1 fun l H2=>th σ H2 fun u H3=>r x l u H3 Q
theorem pe_slice {r:V->Option Int->Option Int->Hp->VK->Prop} (hr:SlR X r) (he:PE X e te) (hl:PO X lo tl) (hu:PO X hi th):PE X (.Subscript e (.Slice lo hi none p2) pos) (tSl r te tl th):=by
 intro pins s σ H Q I h
 refine Subscript_ (thn (he pins s σ H _ I h) fun v s1 ⟨x,H1,I1,r1,q1⟩=>?_)
 refine wpAny_Slice (thn (hl pins s1 σ H1 _ I1 q1) fun vl s2 ⟨l,H2,I2,pl,q2⟩=>thn (hu pins s2 σ H2 _ I2 q2) fun vu s3 ⟨u,H3,I3,pu,q3⟩=>?_)
 rw [evalPart_none]
 refine wpAny_pure ?_
 have I4:Inv X pins σ H3 { s3 with heap:=s3.heap.push { cls:=.type "slice",data:=.fields #[vl,vu,.none] } }:=I3.kept (t':=s3.toks) fun b ob q=>Heap.get?_push_of_some _ q
 obtain ⟨T,id,hT,ht,hg⟩:=hr pins { s3 with heap:=s3.heap.push { cls:=.type "slice",data:=.fields #[vl,vu,.none] } } σ H3 x v vl vu l u s3.heap.objs.size Q I4 r1 (Heap.IsSliceOf.new ..) pl pu q3
 show wpAny (model X.prog X.w) X.A (subscriptTail e (.Slice lo hi none p2) v (.ref s3.heap.objs.size)) (EP X pins σ Q) X.xe { s3 with heap:=s3.heap.push { cls:=.type "slice",data:=.fields #[vl,vu,.none] } }
 exact tail_any (ops:=[.ref s3.heap.objs.size,v]) ht hT hg (by with_unfolding_all rfl)
def cutV (xs:List V) (lo hi:Option Int):List V:=(xs.drop (HT.sIx xs.length 0 lo)).take (HT.sIx xs.length xs.length hi-HT.sIx xs.length 0 lo)
theorem cutV_length (xs:List V) (lo hi:Option Int):(cutV xs lo hi).length<=xs.length:=by
 unfold cutV
 rw [List.length_take,List.length_drop]
 omega
end
end L2
namespace L2
open PySem PySem.Spec PyProof.Rows
def ixN (n:Nat) (i:Int):Option Nat:=if 0<=i then (if i < n then some i.toNat else none) else if -(n:Int)<=i then some (i+n).toNat else none
def atI {α:Type} (xs:List α) (i:Int):Option α:=(ixN xs.length i).bind fun j=>xs[j]?
theorem ixN_seq {n:Nat} {i:Int} {j:Nat} (h:ixN n i=some j):seqIndex? i n=some j/\j < n/\-(n:Int)<=i/\i < n:=by
 unfold ixN at h
 by_cases h0:0<=i
 ·rw [if_pos h0] at h
  by_cases h1:i < n
  ·rw [if_pos h1] at h
   have e:i.toNat=j:=Option.some.inj h
   exact ⟨by rw [seqIndex_of h0 h1,e],by omega,by omega,h1⟩
  ·rw [if_neg h1] at h; cases h
 ·rw [if_neg h0] at h
  by_cases h1:-(n:Int)<=i
  ·rw [if_pos h1] at h
   have e:(i+n).toNat=j:=Option.some.inj h
   exact ⟨by rw [seqIndex_neg (by omega) h1,e],by omega,h1,by omega⟩
  ·rw [if_neg h1] at h; cases h
theorem atI_get {α:Type} {xs:List α} {i:Int} {v:α} (h:atI xs i=some v):∃ j,seqIndex? i xs.length=some j/\xs[j]?=some v/\j < xs.length/\-(xs.length:Int)<=i/\i < xs.length:=by
 unfold atI at h
 cases e:ixN xs.length i with
 | none=>rw [e] at h; cases h
 | some j =>
  rw [e] at h
  obtain ⟨h1,h2,h3,h4⟩:=ixN_seq e
  exact ⟨j,h1,h,h2,h3,h4⟩
theorem atI_nat {α:Type} {xs:List α} {j:Nat} {v:α} (h:xs[j]?=some v):atI xs (j:Int)=some v:=by
 have hj:j < xs.length:=(List.getElem?_eq_some_iff.mp h).1
 have e:ixN xs.length (j:Int)=some j:=by
  unfold ixN
  rw [if_pos (by omega),if_pos (by omega)]; simp
 unfold atI; rw [e]; exact h
theorem atI_last {α:Type} (xs:List α) (v:α):atI (xs++[v]) (-1)=some v:=by
 have hl:(xs++[v]).length=xs.length+1:=by simp
 have e:ixN (xs++[v]).length (-1)=some xs.length:=by
  unfold ixN
  rw [hl,if_neg (by decide),if_pos (by omega)]
  congr 1
  omega
 unfold atI
 rw [e]
 show (xs++[v])[xs.length]?=some v
 simp
def PlainIx (b:Expr):Prop:=∀ o i,subscripted b false o i=operate [o,i] (getItem o i)
def IxR (X:Cx) (r:R2):Prop :=
 ∀ (value slice:Expr) (pins:List (Addr×Obj)) (s:Shared) (σ:St) (H:Hp) (x y:V) (v u:Value) (Q:VK),Inv X pins σ H s->RelV x v->RelV y u->r x y H Q ->
  subscripted slice false v u=operate [v,u] (getItem v u)->wpAny (model X.prog X.w) X.A (subscriptTail value slice v u) (EP X pins σ Q) X.xe s
def MtR (X:Cx) (id:String) (r:V->List V->Hp->VK->Prop):Prop :=
 ∀ (pins:List (Addr×Obj)) (s:Shared) (σ:St) (H:Hp) (x:V) (xs:List V) (v:Value) (us:List Value) (Q:VK),Inv X pins σ H s->RelV x v->Vals xs us->r x xs H Q ->
  wpAny (model X.prog X.w) X.A (call (.builtin id) (v :: us)) (EP X pins σ Q) X.xe s
section
variable {X:Cx} {a b:Expr} {ta tb:TE} {pos:Pos}
theorem pe_ix {r:R2} (hr:IxR X r) (ha:PE X a ta) (hb:PE X b tb) (hs:PlainIx b):PE X (.Subscript a b pos) (tOp r ta tb):=by
 intro pins s σ H Q I h
 exact Subscript_ (binT ha hb I h fun v u s2 x y H2 I2 rx ry q=>hr a b pins s2 σ H2 x y v u Q I2 rx ry q (hs _ _))
def rIxL (K:PySem.W.Frag):R2:=fun x y H Q=>∃ p xs i v,x=.ref p/\y=.int i/\SqL K H p xs/\atI xs i=some v/\Q v H
def rIxS:R2:=fun x y H Q=>∃ z i c,x=.str z/\y=.int i/\z.length<=sizeLine/\atI z.cps.toList i=some c/\Q (.str ⟨#[c]⟩) H
theorem ix_list:IxR X (rIxL X.K):=by
 intro value slice pins s σ H x y v u Q I rx ry h hs
 obtain ⟨p,xs,i,z,rfl,rfl,hq,he,q⟩:=h
 cases rx
 obtain ⟨t,rfl⟩:=ry
 obtain ⟨its,r,pl,hz⟩:=I.list hq
 obtain ⟨j,h1,h2,h3,h4,h5⟩:=atI_get he
 obtain ⟨w,ew,rw'⟩:=r.get h2
 have hl:=r.length
 have hn:=line63
 have fin:EP X pins σ Q w s:=⟨z,H,I,rw',q⟩
 by_cases h0:0<=i
 ·have hj:i.toNat=j:=by
   rw [seqIndex_of h0 h5] at h1
   exact Option.some.inj h1
  exact item_listR pl.isList h0 (by omega) (by rw [hj]; simpa using ew) fin hs
 ·have hj:(i+(its.toArray.size:Int)).toNat=j:=by
   rw [seqIndex_neg (by omega) h4] at h1
   rw [List.size_toArray,<- hl]
   exact Option.some.inj h1
  exact subscriptTail_builtinR (x:=w) pl.isList.typeIs slot_list_getitem.lookup
   (wpAny_getItem_list_neg (Q:=fun r s'=>r=w/\EP X pins σ Q r s') pl.isList (by omega) (by rw [List.size_toArray] <;> omega) (by omega) (by rw [hj]; simpa using ew) ⟨rfl,fin⟩) hs
theorem ix_str:IxR X rIxS:=by
 intro value slice pins s σ H x y v u Q I rx ry h hs
 obtain ⟨z,i,c,rfl,rfl,hz,he,q⟩:=h
 obtain ⟨t,rfl⟩:=rx
 obtain ⟨t',rfl⟩:=ry
 obtain ⟨j,h1,h2,h3,h4,h5⟩:=atI_get he
 have hl:z.cps.toList.length=z.length:=by simp [Str.length]
 rw [hl] at h1 h4 h5
 have hn:=line63
 exact tail_any (typeIs_str s z t) slot_str_getitem.lookup (getItem_str (c:=c) (by
  have e1:decide (i < -(2 ^ 63:Int))=false:=decide_eq_false (by omega)
  have e2:decide (i ≥ 2 ^ 63)=false:=decide_eq_false (by omega)
  rw [e1,e2,Bool.or_false]) (by rw [h1]; simpa using h2) ⟨.str ⟨#[c]⟩,H,I.tok _,⟨_,rfl⟩,q⟩) hs
theorem slice_bounds (lo hi:Option Int) (n:Nat):(sliceBounds lo hi none n).1=((HT.sIx n 0 lo:Nat):Int)/\(sliceBounds lo hi none n).2.1=((HT.sIx n n hi:Nat):Int)/\(sliceBounds lo hi none n).2.2=1:=by
 refine ⟨?_,?_,rfl⟩
 ·cases lo with
  | none=>simp [sliceBounds,HT.sIx]
  | some i =>
   simp only [sliceBounds,HT.sIx,Option.getD_none,show (1:Int) > 0 by decide,if_true]
   by_cases h:i < 0
   ·simp only [h,if_true] <;> omega
   ·simp only [h,if_false] <;> omega
 ·cases hi with
  | none=>simp [sliceBounds,HT.sIx]
  | some i =>
   simp only [sliceBounds,HT.sIx,Option.getD_none,show (1:Int) > 0 by decide,if_true]
   by_cases h:i < 0
   ·simp only [h,if_true] <;> omega
   ·simp only [h,if_false] <;> omega
theorem slicePick_cut (its:List Value) (lo hi:Option Int):slicePick its.toArray lo hi none=((its.drop (HT.sIx its.length 0 lo)).take (HT.sIx its.length its.length hi-HT.sIx its.length 0 lo)).toArray:=by
 obtain ⟨h1,h2,h3⟩:=slice_bounds lo hi its.toArray.size
 unfold slicePick
 rw [h1,h2,h3]
 simp only [sliceRange_one,pick_run,List.size_toArray] <;> rfl
def rSlL (K:PySem.W.Frag):V->Option Int->Option Int->Hp->VK->Prop:=fun x lo hi H Q=>∃ a xs,x=.ref a/\SqL K H a xs/\∀ p,H p=none->Q (.ref p) (upd H p (.lst (cutV xs lo hi)))
theorem sl_list:SlR X (rSlL X.K):=by
 intro pins s σ H x v vl vu lo hi sl Q I rx hs pl pu h
 obtain ⟨a,xs,rfl,hx,q⟩:=h
 cases rx
 obtain ⟨its,r,ht,hz⟩:=I.list hx
 have hlen:=r.length
 refine ⟨"list",_,slot_list_getitem.lookup,ht.isList.typeIs,?_⟩
 refine wpAny_getItem_list_slice ht.isList hs pl pu .none (by simp) ?_ (by rw [List.size_toArray] <;> omega)
 rw [slicePick_cut,<- hlen]
 refine ⟨.ref s.heap.objs.size,_,I.laid (t':=s.toks) (o:=.lst (cutV xs lo hi)) (fun b ob q=>Heap.get?_push_of_some _ q) (Nat.le_refl _) ?_,rfl,q _ (I.hok.fresh (Nat.le_refl _))⟩
 exact ⟨Nat.le_trans (cutV_length xs lo hi) hz,_,0,(r.drop (HT.sIx xs.length 0 lo)).take (HT.sIx xs.length xs.length hi-HT.sIx xs.length 0 lo),Heap.get?_push_size _ rfl⟩
def flatV:V->Bool
 | .non=>true
 | .bl _=>true
 | .int _=>true
 | .str _=>true
 | _=>false
def eqV:V->V->Bool
 | .non,.non=>true
 | .bl a,.bl b=>a == b
 | .bl a,.int b=>(if a then 1 else 0) == b
 | .int a,.bl b=>a == (if b then 1 else 0)
 | .int a,.int b=>a == b
 | .str a,.str b=>a == b
 | _,_=>false
theorem eqAt_V {A:Around} {s:Shared} {y x:V} {u v:Value} (ry:RelV y u) (rx:RelV x v) (fy:flatV y=true) (fx:flatV x=true):SeqAt.EqAt A s u v (eqV y x):=by
 cases y with
 | non =>
  cases ry
  cases x with
  | non=>cases rx; exact SeqAt.EqAt.same _
  | bl b=>cases rx; exact SeqAt.EqAt.none_bool b
  | int b=>obtain ⟨t,rfl⟩:=rx; exact SeqAt.EqAt.none_int b t
  | str b=>obtain ⟨t,rfl⟩:=rx; exact SeqAt.EqAt.none_str b t
  | _=>exact absurd (show false=true from fx) Bool.false_ne_true
 | bl a =>
  cases ry
  cases x with
  | non=>cases rx; exact SeqAt.EqAt.bool_none a
  | bl b=>cases rx; exact SeqAt.EqAt.bool_bool a b
  | int b=>obtain ⟨t,rfl⟩:=rx; exact SeqAt.EqAt.bool_int a b t
  | str b=>obtain ⟨t,rfl⟩:=rx; exact SeqAt.EqAt.bool_str a b t
  | _=>exact absurd (show false=true from fx) Bool.false_ne_true
 | int a =>
  obtain ⟨t',rfl⟩:=ry
  cases x with
  | non=>cases rx; exact SeqAt.EqAt.int_none a t'
  | bl b=>cases rx; exact SeqAt.EqAt.int_bool a t' b
  | int b=>obtain ⟨t,rfl⟩:=rx; exact SeqAt.EqAt.int_int a t' b t
  | str b=>obtain ⟨t,rfl⟩:=rx; exact SeqAt.EqAt.int_str a t' b t
  | _=>exact absurd (show false=true from fx) Bool.false_ne_true
 | str a =>
  obtain ⟨t',rfl⟩:=ry
  cases x with
  | non=>cases rx; exact SeqAt.EqAt.str_none a t'
  | bl b=>cases rx; exact SeqAt.EqAt.str_bool a t' b
  | int b=>obtain ⟨t,rfl⟩:=rx; exact SeqAt.EqAt.str_int a t' b t
  | str b=>obtain ⟨t,rfl⟩:=rx; exact SeqAt.EqAt.str_str a t' b t
  | _=>exact absurd (show false=true from fx) Bool.false_ne_true
 | _=>exact absurd (show false=true from fy) Bool.false_ne_true
def eqU (x:V) (u:Value):Bool:=match u with
 | .none=>eqV .non x
 | .bool b=>eqV (.bl b) x
 | .int i _=>eqV (.int i) x
 | .str z _=>eqV (.str z) x
 | _=>false
theorem eqU_of {x y:V} {u:Value} (r:RelV y u) (f:flatV y=true):eqU x u=eqV y x:=by
 cases y with
 | non=>cases r; rfl
 | bl b=>cases r; rfl
 | int i=>obtain ⟨t,rfl⟩:=r; rfl
 | str z=>obtain ⟨t,rfl⟩:=r; rfl
 | _=>exact absurd (show false=true from f) Bool.false_ne_true
theorem any_eqU {x:V}:∀ {xs:List V} {us:List Value},Vals xs us->xs.all flatV=true->us.any (eqU x)=xs.any fun y=>eqV y x
 | _,_,.nil,_=>rfl
 | y :: xs,u :: us,.cons r t,f=>by
  rw [List.all_cons,Bool.and_eq_true] at f
  rw [List.any_cons,List.any_cons,eqU_of r f.1,any_eqU t f.2]
theorem mem_eqAt {A:Around} {s:Shared} {x:V} {v:Value} (rx:RelV x v) (fx:flatV x=true):∀ {xs:List V} {us:List Value},Vals xs us->xs.all flatV=true->∀ u ∈ us,SeqAt.EqAt A s u v (eqU x u)
 | _,_,.nil,_=>fun u hu=>by cases hu
 | y :: xs,u :: us,.cons r t,f=>fun u' hu=>by
  rw [List.all_cons,Bool.and_eq_true] at f
  rcases List.mem_cons.mp hu with rfl | hu
  ·rw [eqU_of r f.1]; exact eqAt_V r rx f.1 fx
  ·exact mem_eqAt rx fx t f.2 u' hu
def inV (x:V) (xs:List V):Bool:=xs.any fun y=>eqV y x
def rIn (K:PySem.W.Frag) (neg:Bool):R2:=fun x y H Q=>∃ p xs,y=.ref p/\(SqL K H p xs\/SqT K H p xs)/\flatV x=true/\xs.all flatV=true/\Q (.bl (if neg then !inV x xs else inV x xs)) H
theorem op_in_seq:OpR X (compareOp .In) (rIn X.K false):=by
 intro pins s σ H x y v u Q I rx ry h
 obtain ⟨p,xs,rfl,hq,fx,fs,q⟩:=h
 cases ry
 rcases hq with hq | hq
 ·obtain ⟨its,r,pl,hz⟩:=I.list hq
  refine SeqAt.in_listAt (eqU x) pl.isList (fun w hw=>mem_eqAt rx fx r fs w (by simpa using hw)) ⟨.bl _,H,I,rfl,?_⟩
  rw [show its.toArray.any (eqU x)=its.any (eqU x) by simp,any_eqU r fs]
  exact q
 ·obtain ⟨its,r,pl,hz⟩:=I.tuple hq
  refine SeqAt.in_tupleAt (eqU x) pl (fun w hw=>mem_eqAt rx fx r fs w (by simpa using hw)) ⟨.bl _,H,I,rfl,?_⟩
  rw [show its.toArray.any (eqU x)=its.any (eqU x) by simp,any_eqU r fs]
  exact q
theorem op_notIn_seq:OpR X (compareOp .NotIn) (rIn X.K true):=by
 intro pins s σ H x y v u Q I rx ry h
 obtain ⟨p,xs,rfl,hq,fx,fs,q⟩:=h
 cases ry
 rcases hq with hq | hq
 ·obtain ⟨its,r,pl,hz⟩:=I.list hq
  refine SeqAt.notIn_listAt (eqU x) pl.isList (fun w hw=>mem_eqAt rx fx r fs w (by simpa using hw)) ⟨.bl _,H,I,rfl,?_⟩
  rw [show its.toArray.any (eqU x)=its.any (eqU x) by simp,any_eqU r fs]
  exact q
 ·obtain ⟨its,r,pl,hz⟩:=I.tuple hq
  refine SeqAt.notIn_tupleAt (eqU x) pl (fun w hw=>mem_eqAt rx fx r fs w (by simpa using hw)) ⟨.bl _,H,I,rfl,?_⟩
  rw [show its.toArray.any (eqU x)=its.any (eqU x) by simp,any_eqU r fs]
  exact q
theorem call_len_seq:CallR X (.builtin "len") (fun xs H Q=>∃ p ys,xs=[.ref p]/\(SqL X.K H p ys\/SqT X.K H p ys)/\Q (.int ys.length) H):=by
 intro pins s σ H xs us Q I r h
 obtain ⟨p,ys,rfl,hq,q⟩:=h
 obtain ⟨u,rfl,rx⟩:=vals1 r
 cases rx
 have hn:=line63
 rcases hq with hq | hq
 ·obtain ⟨its,r',pl,hz⟩:=I.list hq
  have hlen:=r'.length
  exact Calls.call_len_list pl.isList (by simp only [List.size_toArray] <;> omega) ⟨.int ys.length,H,I.tok _,⟨s.toks+1,by rw [List.size_toArray,hlen]⟩,q⟩
 ·obtain ⟨its,r',pl,hz⟩:=I.tuple hq
  have hlen:=r'.length
  exact len_tuple pl (by simp only [List.size_toArray] <;> omega) ⟨.int ys.length,H,I.tok _,⟨s.toks+1,by rw [List.size_toArray,hlen]⟩,q⟩
def tyV (K:PySem.W.Frag) (T:String) (x:V) (H:Hp):Prop:=match x with
 | .str _=>T = "str"
 | .int _=>T = "int"
 | .ref p=>(T = "list" /\ ∃ xs,SqL K H p xs)\/(T = "tuple" /\ ∃ o,K.lookup p=some o/\o.cls=.type "tuple" /\ o.dict=none) \/
   (T = "dict" /\ ((∃ kvs,H p=some (.dK kvs))\/∃ kvs,H p=some (.dT kvs)))\/(T = "set" /\ ∃ S n,H p=some (.set S n))
 | _=>False
theorem tyV_is {pins:List (Addr×Obj)} {σ:St} {H:Hp} {s:Shared} {T:String} {x:V} {v:Value} (I:Inv X pins σ H s) (r:RelV x v) (ty:tyV X.K T x H) :
  s.TypeIs v T/\∀ a,v=.ref a->∃ ob,s.heap.get? a=some ob/\ob.dict=none:=by
 cases x with
 | str z =>
  obtain ⟨t,rfl⟩:=r
  cases (show T = "str" from ty)
  exact ⟨typeIs_str s z t,fun _ e=>nomatch e⟩
 | int i =>
  obtain ⟨t,rfl⟩:=r
  cases (show T = "int" from ty)
  exact ⟨typeIs_int s i t,fun _ e=>nomatch e⟩
 | ref p =>
  cases r
  rcases ty with ⟨rfl,xs,hq⟩ | ⟨rfl,o,hk,hc,hd⟩ | ⟨rfl,hk⟩ | ⟨rfl,S,n,hk⟩
  ·obtain ⟨its,_,pl,_⟩:=I.list hq
   refine ⟨pl.isList.typeIs,fun a e=>?_⟩
   cases e
   obtain ⟨o,n,e,c,hd,_⟩:=pl
   exact ⟨o,e,hd⟩
  ·refine ⟨⟨o,I.kIn p o hk,hc⟩,fun a e=>?_⟩
   cases e
   exact ⟨o,I.kIn _ o hk,hd⟩
  ·have z:∃ o,s.heap.get? p=some o/\o.ExactDict:=by
    rcases hk with ⟨kvs,hk⟩ | ⟨kvs,hk⟩
    ·obtain ⟨_,_,_,_,o,_,_,e,ex,_⟩:=I.hok p _ hk
     exact ⟨o,e,ex⟩
    ·obtain ⟨_,_,_,_,o,_,_,e,ex,_⟩:=I.hok p _ hk
     exact ⟨o,e,ex⟩
   obtain ⟨o,e,ex⟩:=z
   refine ⟨⟨o,e,ex.1⟩,fun a e2=>?_⟩
   cases e2
   exact ⟨o,e,ex.2.1⟩
  ·obtain ⟨o,_,_,_,e,ex,_⟩:=I.hok p _ hk
   refine ⟨⟨o,e,ex.1⟩,fun a e2=>?_⟩
   cases e2
   exact ⟨o,e,ex.2.1⟩
 | _=>exact False.elim ty
def tBM0 (K:PySem.W.Frag) (T:String) (r:V->List V->Hp->VK->Prop) (to:TE):TE:=fun σ H Q=>to σ H fun x H1=>tyV K T x H1/\r x [] H1 Q
def tBM (K:PySem.W.Frag) (T:String) (r:V->List V->Hp->VK->Prop) (to:TE) (t:TA):TE:=fun σ H Q=>to σ H fun x H1=>tyV K T x H1/\t σ H1 fun xs H2=>r x xs H2 Q
variable {o e:Expr} {es:List Expr} {to:TE} {t:TA} {name:Str} {apos cpos:Pos} {T id:String} {r:V->List V->Hp->VK->Prop}
theorem pe_bm0 (pa:PlainAttrs T) (slot:Slot T name id) (hty:typeOf (.builtin id)=pure (.type "method_descriptor")) (hm:MtR X id r) (ho:PE X o to)
  (hbase:attributeBase o name X.env (eval o X.env)=eval o X.env:=by rfl) (hline:(apos.endLine == cpos.line)=true:=by rfl):PE X (.Call (.Attribute o name apos) [] [] cpos) (tBM0 X.K T r to):=by
 intro pins s σ H Q I h
 refine wpAny_Call_method0_late hbase hline (thn (ho pins s σ H _ I h) fun v s1 ⟨x,H1,I1,r1,ty,q1⟩=>?_)
 obtain ⟨h1,h2⟩:=tyV_is I1 r1 ty
 exact ⟨T,id,pa,slot,hty,h1,h2,Calls.callWith_builtin rfl (PySem.evalArgs_none (hm pins s1 σ H1 x [] v [] Q I1 r1 .nil q1))⟩
theorem pe_bm (pa:PlainAttrs T) (slot:Slot T name id) (hty:typeOf (.builtin id)=pure (.type "method_descriptor")) (hm:MtR X id r) (ho:PE X o to) (ha:PA X (e :: es) t)
  (hbase:attributeBase o name X.env (eval o X.env)=eval o X.env:=by rfl)
  (hfew:((backTo cpos (starEach (e :: es) X.env)).all (fun x=>!x.1) && (backToKw cpos (keywordEach [] X.env)).all (fun x=>x.1.isSome)
   && decide ((e :: es).length+([]:List Keyword).length+(if ([]:List Keyword).isEmpty then 0 else 1) < 30))=true:=by rfl)
  (hline:(apos.endLine == cpos.line)=true:=by rfl) (hs:starEach (e :: es) X.env=(false,eval e X.env) :: starEach es X.env:=by rfl) (hplain:(backTo cpos (starEach es X.env)).any (·.1)=false:=by rfl) :
  PE X (.Call (.Attribute o name apos) (e :: es) [] cpos) (tBM X.K T r to t):=by
 intro pins s σ H Q I h
 refine wpAny_Call_method_late hbase hfew hline rfl (thn (ho pins s σ H _ I h) fun v s1 ⟨x,H1,I1,r1,ty,q1⟩=>?_)
 obtain ⟨h1,h2⟩:=tyV_is I1 r1 ty
 refine ⟨T,id,pa,slot,hty,h1,h2,?_⟩
 have hA:=ha cpos pins s1 σ H1 _ I1 q1
 rw [hs] at hA ⊢
 refine Calls.callWith_builtin (by show (false || (backTo cpos (starEach es X.env)).any (·.1))=false; rw [hplain] <;> rfl) (Calls.evalArgs_plain ?_)
 exact thn hA fun us s2 ⟨vs,H2,I2,r2,q2⟩=>hm pins s2 σ H2 x vs v us Q I2 r1 r2 q2
end
end L2
namespace L2
open PySem PySem.Spec PyProof.Rows
def MtM (X:Cx) (id:String) (r:V->List V->Hp->VK->Prop):Prop :=
 ∀ (pins:List (Addr×Obj)) (s:Shared) (σ:St) (H:Hp) (x:V) (xs:List V) (v:Value) (us:List Value) (Q:VK),Inv X pins σ H s->RelV x v->Vals xs us->r x xs H Q ->
  wpAny (model X.prog X.w) X.A (call (.builtin id) (v :: us)) (EP X pins σ Q) X.xe s
theorem Vals.one:∀ {x:V} {us:List Value},Vals [x] us->∃ u,us=[u]/\RelV x u
 | _,_,.cons r .nil=>⟨_,rfl,r⟩
theorem Vals.zero:∀ {us:List Value},Vals [] us->us=[]
 | _,.nil=>rfl
theorem Vals.dropLast {xs:List V} {us:List Value} (h:Vals xs us):Vals xs.dropLast us.dropLast:=by
 induction h with
 | nil=>exact .nil
 | cons r t ih =>
  cases t with
  | nil=>exact .nil
  | cons q t'=>exact .cons r ih
theorem Vals.reverse {xs:List V} {us:List Value} (h:Vals xs us):Vals xs.reverse us.reverse:=by
 induction h with
 | nil=>exact .nil
 | cons r t ih=>rw [List.reverse_cons,List.reverse_cons]; exact Vals.append ih (.cons r .nil)
theorem erase_last {α:Type} (l:List α):l.eraseIdx (l.length-1)=l.dropLast:=by
 induction l with
 | nil=>rfl
 | cons a r ih =>
  cases r with
  | nil=>rfl
  | cons b r =>
   have e:(a :: b :: r).length-1=((b :: r).length-1)+1:=by
    have h1:(a :: b :: r).length=r.length+2:=rfl
    have h2:(b :: r).length=r.length+1:=rfl
    omega
   rw [e,List.eraseIdx_cons_succ,ih]
   all_goals rfl
section
variable {X:Cx} {pins:List (Addr×Obj)} {σ:St} {H:Hp} {s:Shared} {l b:Addr} {xs ys zs:List V}
theorem Inv.lset {its its':List Value} {n:Nat} {f:Array Value->Array Value} {t':Nat} (I:Inv X pins σ H s) (hH:H l=some (.lst xs))
  (e:s.heap.get? l=some { cls:=.type "list",data:=.seq its.toArray n }) (hf:f its.toArray=its'.toArray) (hv:Vals ys its') (hz:ys.length<=sizeLine) :
  Inv X pins σ (upd H l (.lst ys)) { s with heap:=s.heap.update l (Obj.mapSeq f),toks:=t' }:=by
 have q:=PySem.IsL.update e f
 rw [hf] at q
 refine I.write (x:=l) (e:=l) (by rw [hH]; exact trivial) (.inl rfl) (fun b' u hb hu=>(Heap.get?_update_other s.heap (Obj.mapSeq f) (Ne.symm hb)).trans hu) ⟨_,q⟩ ?_
 exact ⟨hz,its',_,hv,q⟩
theorem Inv.lstM (I:Inv X pins σ H s) (hH:H l=some (.lst xs)):xs.length<=sizeLine/\∃ (its:List Value) (n:Nat),Vals xs its/\xs.length=its.length/\s.heap.get? l=some { cls:=.type "list",data:=.seq its.toArray n }:=by
 obtain ⟨z,its,n,r,e⟩:=I.hok l _ hH
 exact ⟨z,its,n,r,r.length,e⟩
theorem notLongL {n:Nat} (h:n<=sizeLine):Builtin.List.listTooLong n=false:=by
 unfold Builtin.List.listTooLong
 exact decide_eq_false (by omega)
end
section
variable {X:Cx}
def rAppend:V->List V->Hp->VK->Prop:=fun x vs H Q=>∃ l xs y,x=.ref l/\vs=[y]/\H l=some (.lst xs)/\xs.length < sizeLine/\Q .non (upd H l (.lst (xs++[y])))
theorem mt_append:MtM X "list.append" rAppend:=by
 intro pins s σ H x vs v us Q I rx rv h
 obtain ⟨l,xs,y,rfl,rfl,hH,hz,q⟩:=h
 cases rx
 obtain ⟨u,rfl,ru⟩:=rv.one
 obtain ⟨z,its,n,r,hl,e⟩:=I.lstM hH
 refine call_meets F.slot_list_append ⟨_,e,rfl⟩ F.entry_list_append (F.args_list_append_2 _ _) (PySem.list_append l its.toArray n u (by rw [List.size_toArray]; omega)) ⟨e,?_⟩
 refine ⟨.non,_,I.lset (its':=its++[u]) hH e (by simp) (r.append (.cons ru .nil)) ?_,rfl,q⟩
 rw [List.length_append,List.length_singleton]
 omega
def rExtend:V->List V->Hp->VK->Prop:=fun x vs H Q=>∃ l b xs zs,x=.ref l/\vs=[.ref b]/\H l=some (.lst xs)/\H b=some (.lst zs)/\xs.length+zs.length<=sizeLine/\Q .non (upd H l (.lst (xs++zs)))
theorem mt_extend:MtM X "list.extend" rExtend:=by
 intro pins s σ H x vs v us Q I rx rv h
 obtain ⟨l,b,xs,zs,rfl,rfl,hH,hB,hz,q⟩:=h
 cases rx
 obtain ⟨u,rfl,ru⟩:=rv.one
 cases ru
 obtain ⟨z,its,n,r,hl,e⟩:=I.lstM hH
 obtain ⟨z2,its2,n2,r2,hl2,e2⟩:=I.lstM hB
 have hsz:its.toArray.size+its2.toArray.size<=sizeLine:=by rw [List.size_toArray,List.size_toArray]; omega
 have hlong:¬ (!its.toArray.isEmpty && Builtin.List.listTooLong (its.toArray.size+its2.toArray.size))=true:=by
  rw [notLongL hsz,Bool.and_false]
  exact Bool.false_ne_true
 refine call_meets F.slot_list_extend ⟨_,e,rfl⟩ F.entry_list_extend (F.args_list_extend_2 _ _)
  (AutoSeq1.list_extend_list_list_0 l its.toArray n b its2.toArray n2 hlong (by rw [List.size_toArray]; omega) (by omega)) ⟨e,e2,?_⟩
 refine ⟨.non,_,I.lset (its':=its++its2) hH e (by simp) (r.append r2) ?_,rfl,q⟩
 rw [List.length_append]
 omega
def rPop:V->List V->Hp->VK->Prop:=fun x vs H Q=>∃ l xs y,x=.ref l/\vs=[]/\H l=some (.lst xs)/\xs[xs.length-1]?=some y/\Q y (upd H l (.lst xs.dropLast))
theorem mt_pop:MtM X "list.pop" rPop:=by
 intro pins s σ H x vs v us Q I rx rv h
 obtain ⟨l,xs,y,rfl,rfl,hH,hy,q⟩:=h
 cases rx
 have hus:=rv.zero
 subst hus
 obtain ⟨z,its,n,r,hl,e⟩:=I.lstM hH
 obtain ⟨u,hu,ru⟩:=r.get hy
 have hy':its.toArray[its.toArray.size-1]?=some u:=by
  show its.toArray[its.length-1]?=some u
  rw [<- Array.getElem?_toList,<- hl]
  exact hu
 refine call_meets F.slot_list_pop ⟨_,e,rfl⟩ F.entry_list_pop (F.args_list_pop_1 _) (MeetsSeq.list_pop_last l its.toArray n u hy' (by rw [List.size_toArray]; omega)) ⟨e,?_⟩
 refine ⟨y,_,I.lset (its':=its.dropLast) hH e ?_ r.dropLast ?_,ru,q⟩
 ·show its.toArray.eraseIdxIfInBounds (its.toArray.size-1)=its.dropLast.toArray
  rw [List.size_toArray,List.eraseIdxIfInBounds_toArray,erase_last]
 ·rw [List.length_dropLast]
  omega
end
section
variable {prog:Program} {w:World} {A:Around} {E:Value->Shared->Prop} {s:Shared}
set_option maxRecDepth 100000 in
end
section
variable {X:Cx}
end
end L2
namespace L2
open PySem PySem.Spec PyProof.Rows
theorem Vals.ints:∀ {ns:List Int} {us:List Value},Vals (ns.map V.int) us->IntsAre us ns
 | [],us,h=>by
  rw [List.map_nil] at h
  cases h
  exact IntsAre.nil
 | n :: ns,us,h=>by
  rw [List.map_cons] at h
  cases h with
  | cons r t =>
   obtain ⟨k,rfl⟩:=r
   exact IntsAre.cons n k (Vals.ints t)
theorem Vals.bls:∀ {bs:List Bool} {us:List Value},Vals (bs.map V.bl) us->us=bs.map Value.bool
 | [],us,h=>by
  rw [List.map_nil] at h
  cases h
  rfl
 | b :: bs,us,h=>by
  rw [List.map_cons] at h
  cases h with
  | cons r t =>
   cases r
   rw [Vals.bls t,List.map_cons]
theorem Vals.ref1 {a:Addr} {us:List Value} (r:Vals [V.ref a] us):us=[Value.ref a]:=by
 cases r with
 | cons r t =>
  cases t
  cases r
  rfl
section
variable {prog:Program} {w:World} {A:Around} {E:Value->Shared->Prop} {s:Shared} {l:Addr} {its:List Value} {ns:List Int} {Q:Value->Shared->Prop}
theorem sum_raw (hh:A.handled=none) (hl:s.heap.IsList l its.toArray) (hi:IntsAre its ns)
  (h:∀ h' tk t',(∀ b o,s.heap.get? b=some o->h'.get? b=some o)->Q (.int ns.sum t') { s with heap:=h',toks:=tk }):wpAny (model prog w) A (call (.builtin "sum") [.ref l]) Q E s:=by
 obtain ⟨xs,e⟩:=hi.allInts.items
 have hn:numsOf (intItems xs).toList=ns:=by rw [<- e]; exact hi.numsOf
 rw [nums_intItems] at hn
 rw [e] at hl
 refine PySem.sum_intListG hh hl fun h' tk t' hk=>?_
 have:=h h' tk t' hk
 rw [preSum_eq,List.take_of_length_le (by simp),hn]; exact this
theorem max_raw (hh:A.handled=none) (hl:s.heap.IsList l its.toArray) (hi:IntsAre its ns) (hne:0 < ns.length)
  (h:∀ h' tk M t',(∀ b o,s.heap.get? b=some o->h'.get? b=some o)->M ∈ ns->(∀ a,a ∈ ns->a<=M)->Q (.int M t') { s with heap:=h',toks:=tk }):wpAny (model prog w) A (call (.builtin "max") [.ref l]) Q E s:=by
 obtain ⟨xs,e⟩:=hi.allInts.items
 have hn:numsOf (intItems xs).toList=ns:=by rw [<- e]; exact hi.numsOf
 rw [nums_intItems] at hn
 subst hn
 rw [e] at hl
 have hsz:0 < xs.size:=by simpa using hne
 refine PySem.max_intList hh hl hsz fun v h' tk hv hk=>?_
 obtain ⟨t,rfl⟩:=intItems_at hv
 obtain ⟨h1,h2⟩:=argBest_gt (numAt xs) (xs.size-1)
 refine h h' tk _ t hk ?_ fun a ha=>?_
 ·rw [numAt_eq]; exact PySem.getD_mem (by rw [List.length_map,Array.length_toList]; omega)
 ·obtain ⟨j,hj,rfl⟩:=mem_getD ha
  rw [List.length_map,Array.length_toList] at hj
  rw [<- numAt_eq]; exact h2 j (by omega)
theorem min_raw (hh:A.handled=none) (hl:s.heap.IsList l its.toArray) (hi:IntsAre its ns) (hne:0 < ns.length)
  (h:∀ h' tk M t',(∀ b o,s.heap.get? b=some o->h'.get? b=some o)->M ∈ ns->(∀ a,a ∈ ns->M<=a)->Q (.int M t') { s with heap:=h',toks:=tk }):wpAny (model prog w) A (call (.builtin "min") [.ref l]) Q E s:=by
 obtain ⟨xs,e⟩:=hi.allInts.items
 have hn:numsOf (intItems xs).toList=ns:=by rw [<- e]; exact hi.numsOf
 rw [nums_intItems] at hn
 subst hn
 rw [e] at hl
 have hsz:0 < xs.size:=by simpa using hne
 refine PySem.min_intList hh hl hsz fun v h' tk hv hk=>?_
 obtain ⟨t,rfl⟩:=intItems_at hv
 obtain ⟨h1,h2⟩:=argBest_lt (numAt xs) (xs.size-1)
 refine h h' tk _ t hk ?_ fun a ha=>?_
 ·rw [numAt_eq]; exact PySem.getD_mem (by rw [List.length_map,Array.length_toList]; omega)
 ·obtain ⟨j,hj,rfl⟩:=mem_getD ha
  rw [List.length_map,Array.length_toList] at hj
  rw [<- numAt_eq]; exact h2 j (by omega)
end
section
variable {X:Cx}
def rSum (K:PySem.W.Frag):List V->Hp->VK->Prop:=fun vs H Q=>∃ (a:Addr) (ns:List Int),vs=[V.ref a]/\SqL K H a (ns.map V.int)/\Q (.int ns.sum) H
def rMin (K:PySem.W.Frag):List V->Hp->VK->Prop:=fun vs H Q=>∃ (a:Addr) (ns:List Int),vs=[V.ref a]/\SqL K H a (ns.map V.int)/\0 < ns.length/\∀ m,m ∈ ns->(∀ y,y ∈ ns->m<=y)->Q (.int m) H
theorem cr_sum (hc:X.calm=true):CallR X (.builtin "sum") (rSum X.K):=by
 intro pins s σ H vs us Q I r h
 obtain ⟨a,ns,rfl,hs,q⟩:=h
 obtain ⟨its,rv,hl,_⟩:=I.list hs
 rw [Vals.ref1 r]
 exact sum_raw (I.ok.hd hc) hl.isList rv.ints fun h' tk t' hk=>⟨.int _,H,I.kept hk,⟨_,rfl⟩,q⟩
theorem cr_min (hc:X.calm=true):CallR X (.builtin "min") (rMin X.K):=by
 intro pins s σ H vs us Q I r h
 obtain ⟨a,ns,rfl,hs,hne,q⟩:=h
 obtain ⟨its,rv,hl,_⟩:=I.list hs
 rw [Vals.ref1 r]
 exact min_raw (I.ok.hd hc) hl.isList rv.ints hne fun h' tk m t' hk h1 h2=>⟨.int _,H,I.kept hk,⟨_,rfl⟩,q m h1 h2⟩
end
section
variable {X:Cx}
end
section
variable {X:Cx}
end
theorem iter_any {prog:Program} {w:World} {A:Around} {E:Value->Shared->Prop} {s:Shared} {l:Addr} {items:Array Value} {Q:Value->Shared->Prop} (hl:s.heap.IsList l items)
  (h:∀ s₂:Shared,s₂={ s with heap:=s.heap.push { cls:=.type "list_iterator",data:=.fields #[.ref l,.int 0 0] } } ->
   (s₂.heap.IsListIter s.heap.objs.size l 0/\s₂.heap.IsList l items)->l≠s.heap.objs.size->Q (.ref s.heap.objs.size) s₂):wpAny (model prog w) A (pyIter (.ref l)) Q E s:=by
 have hlt:l < s.heap.objs.size:=by obtain ⟨_,e,_⟩:=hl; exact Heap.lt_size e
 exact wpAny_pyIter_list hl (h _ rfl ⟨⟨_,Heap.get?_push_size _ rfl,rfl,rfl⟩,hl.push _⟩ (Nat.ne_of_lt hlt))
theorem truth_bools {prog:Program} {w:World} {A:Around} {bs:List Bool} {its:List Value} (e:its=bs.map Value.bool) :
  TruthOf prog w A (fun i v=>its.toArray[i]?=some v) (fun i=>bs.getD i false):=fun i v s Q E hv hq=>by
 have hv':its[i]?=some v:=by simpa using hv
 rw [e,List.getElem?_map] at hv'
 obtain ⟨b,hb,rfl⟩:=Option.map_eq_some_iff.mp hv'
 have hg:bs.getD i false=b:=by rw [List.getD_eq_getElem?_getD,hb] <;> rfl
 have hq':Q (bs.getD i false) s:=hq
 rw [hg] at hq'
 exact wpAny_truthy_bool hq'
theorem any_range:∀ bs:List Bool,(List.range bs.length).any (fun i=>bs.getD i false)=bs.any id
 | []=>rfl
 | b :: bs=>by
  rw [List.length_cons,List.range_succ_eq_map,List.any_cons,List.any_map,List.any_cons,<- any_range bs]
  all_goals rfl
section
variable {X:Cx}
def rAny (K:PySem.W.Frag):List V->Hp->VK->Prop:=fun vs H Q=>∃ (a:Addr) (bs:List Bool),vs=[V.ref a]/\SqL K H a (bs.map V.bl)/\Q (.bl (bs.any id)) H
theorem cr_any (hc:X.calm=true):CallR X (.builtin "any") (rAny X.K):=by
 intro pins s σ H vs us Q I r h
 obtain ⟨a,bs,rfl,hs,q⟩:=h
 obtain ⟨its,rv,hl,_⟩:=I.list hs
 rw [Vals.ref1 r]
 have hb:=rv.bls
 refine call_any_walk (iter_any hl.isList fun s₂ e2 st hne=>?_)
 subst e2
 refine ⟨_,_,_,_,_,_,_,rfl,Walks.list (A:=X.A.in1) (I.ok.hd hc) _ a hne its.toArray,st,truth_bools hb,fun h' tk hk=>?_⟩
 refine ⟨.bl _,H,I.kept fun b o eo=>hk b o (fun hmem=>?_) (Heap.get?_push_of_some _ eo),?_,q⟩
 ·rcases List.mem_cons.mp hmem with e1 | hmem
  ·exact absurd (e1 ▸ Heap.lt_size eo) (Nat.lt_irrefl _)
  ·cases hmem
 ·show Value.bool _=Value.bool _
  rw [<- any_range,hb,List.size_toArray,List.length_map]
end
section
variable {X:Cx} {pins:List (Addr×Obj)} {σ:St} {H:Hp} {s:Shared}
end
section
variable {X:Cx}
end
end L2
namespace L2
open PySem PySem.Spec PyProof.Rows
abbrev CellAt (h:Heap) (c:Addr) (v:Option Value):Prop:=h.IsCell c v
def relS (scope sc:Scope):Scope :=
 { scope with names:=scope.names.map fun (n,k)=>if (k == .free && sc.kind == .function && sc.names.lookup n == some .cell) then (n,.cell) else (n,k) }
def cloFrom (cells:List (Str×Addr)):List (Str×NameKind)->List (Str×Addr)->List (Str×Addr)
 | [],acc=>acc
 | (n,k) :: r,acc=>if k == .free then cloFrom cells r ((n,(cells.lookup n).getD 0) :: acc) else cloFrom cells r acc
theorem closure_loop (env:Env) (f:Str×NameKind->List (Str×Addr)->Sem (ForInStep (List (Str×Addr))))
  (hf:∀ n k c,f (n,k) c=if k == .free then (do let a <- cellOf env n; pure (.yield ((n,a) :: c))) else pure (.yield c)) :
  ∀ (names:List (Str×NameKind)) (acc:List (Str×Addr)),(∀ y ∈ names,y.2=.free->∃ c,env.cells.lookup y.1=some c)->forIn names acc f=pure (cloFrom env.cells names acc)
 | [],acc,_=>by rw [List.forIn_nil]; rfl
 | (n,k) :: r,acc,h=>by
  rw [List.forIn_cons,hf]
  have ih:=fun acc=>closure_loop env f hf r acc fun y hy=>h y (List.mem_cons_of_mem _ hy)
  unfold cloFrom
  by_cases hk:(k == NameKind.free)=true
  ·rw [if_pos hk,if_pos hk]
   obtain ⟨c,hc⟩:=h (n,k) List.mem_cons_self (by simpa using hk)
   have e:cellOf env n=pure c:=by unfold cellOf; rw [hc]
   rw [e]
   have e2:(env.cells.lookup n).getD 0=c:=by rw [hc]; rfl
   rw [e2]
   exact ih _
  ·rw [if_neg hk,if_neg hk]
   exact ih _
theorem closure_ok {scope:Scope} {env:Env} (h:∀ y ∈ scope.names,y.2=.free->∃ c,env.cells.lookup y.1=some c):closureFor scope env=pure (cloFrom env.cells scope.names []):=by
 simp only [closureFor]
 rw [closure_loop env _ (fun n k c=>rfl) scope.names [] h]
 rfl
theorem mem_lookup {α:Type}:∀ {l:List (Str×α)} {n:Str} {c:α},(n,c) ∈ l->∃ c',l.lookup n=some c'
 | (k,v) :: r,n,c,h=>by
  rw [List.lookup_cons]
  cases hb:n == k with
  | true=>exact ⟨_,rfl⟩
  | false =>
   rcases List.mem_cons.mp h with e | h
   ·cases e; simp at hb
   ·exact mem_lookup h
theorem cloFrom_mem {cells:List (Str×Addr)}:∀ {names:List (Str×NameKind)} {acc:List (Str×Addr)} {n:Str} {c:Addr},(n,c) ∈ cloFrom cells names acc->(n,c) ∈ acc\/((n,.free) ∈ names/\c=(cells.lookup n).getD 0)
 | [],_,_,_,h=>.inl h
 | (m,k) :: r,acc,n,c,h=>by
  unfold cloFrom at h
  split at h
  ·rename_i hk
   have hk:k=.free:=by simpa using hk
   rcases cloFrom_mem h with h | ⟨h1,h2⟩
   ·rcases List.mem_cons.mp h with e | h
    ·cases e; exact .inr ⟨hk ▸ List.mem_cons_self,rfl⟩
    ·exact .inl h
   ·exact .inr ⟨List.mem_cons_of_mem _ h1,h2⟩
  ·rcases cloFrom_mem h with h | ⟨h1,h2⟩
   ·exact .inl h
   ·exact .inr ⟨List.mem_cons_of_mem _ h1,h2⟩
theorem cloFrom_acc {cells:List (Str×Addr)}:∀ {names:List (Str×NameKind)} {acc:List (Str×Addr)} {p:Str×Addr},p ∈ acc->p ∈ cloFrom cells names acc
 | [],_,_,h=>h
 | (m,k) :: r,acc,p,h=>by
  unfold cloFrom
  split
  ·exact cloFrom_acc (List.mem_cons_of_mem _ h)
  ·exact cloFrom_acc h
theorem cloFrom_has {cells:List (Str×Addr)}:∀ {names:List (Str×NameKind)} {acc:List (Str×Addr)} {n:Str},(n,.free) ∈ names->(n,(cells.lookup n).getD 0) ∈ cloFrom cells names acc
 | (m,k) :: r,acc,n,h=>by
  unfold cloFrom
  rcases List.mem_cons.mp h with e | h
  ·cases e
   exact cloFrom_acc List.mem_cons_self
  ·split
   ·exact cloFrom_has h
   ·exact cloFrom_has h
theorem cells_mem:∀ {names:List (Str×NameKind)} {h:Heap} {acc:List (Str×Addr)} {x:Str} {c:Addr},(x,c) ∈ cellsFrom h.objs.size names acc ->
  (x,c) ∈ acc\/((x,.cell) ∈ names/\h.objs.size<=c/\CellAt (pushCells h names) c none)
 | [],_,_,_,_,h=>.inl h
 | (n,k) :: r,h,acc,x,c,hm=>by
  unfold cellsFrom at hm
  unfold pushCells
  split at hm
  ·rename_i hk
   rw [if_pos hk]
   have hk:k=.cell:=by simpa using hk
   rw [<- Heap.size_push h { cls:=.type "cell",data:=.cell none }] at hm
   rcases cells_mem hm with hm | ⟨h1,h2,h3⟩
   ·rcases List.mem_cons.mp hm with e | hm
    ·cases e
     exact .inr ⟨hk ▸ List.mem_cons_self,Nat.le_refl _,_,pushCells_keeps r _ _ _ (Heap.get?_push_size _ rfl),rfl⟩
    ·exact .inl hm
   ·rw [Heap.size_push] at h2
    exact .inr ⟨List.mem_cons_of_mem _ h1,Nat.le_of_succ_le h2,h3⟩
  ·rename_i hk
   rw [if_neg hk]
   rcases cells_mem hm with hm | ⟨h1,h2,h3⟩
   ·exact .inl hm
   ·exact .inr ⟨List.mem_cons_of_mem _ h1,h2,h3⟩
theorem cells_acc:∀ {names:List (Str×NameKind)} {n:Nat} {acc:List (Str×Addr)} {p:Str×Addr},p ∈ acc->p ∈ cellsFrom n names acc
 | [],_,_,_,h=>h
 | (m,k) :: r,n,acc,p,h=>by
  unfold cellsFrom
  split
  ·exact cells_acc (List.mem_cons_of_mem _ h)
  ·exact cells_acc h
theorem cells_has:∀ {names:List (Str×NameKind)} {n:Nat} {acc:List (Str×Addr)} {x:Str},(x,.cell) ∈ names->∃ c,(x,c) ∈ cellsFrom n names acc
 | (m,k) :: r,n,acc,x,h=>by
  unfold cellsFrom
  rcases List.mem_cons.mp h with e | h
  ·cases e
   exact ⟨n,cells_acc List.mem_cons_self⟩
  ·split
   ·exact cells_has h
   ·exact cells_has h
theorem cells_inj:∀ {names:List (Str×NameKind)} {h:Heap} {acc:List (Str×Addr)} {x y:Str} {c:Addr},(∀ p ∈ acc,p.2 < h.objs.size)->(∀ x y c,(x,c) ∈ acc->(y,c) ∈ acc->x=y) ->
  (x,c) ∈ cellsFrom h.objs.size names acc->(y,c) ∈ cellsFrom h.objs.size names acc->x=y
 | [],_,_,_,_,_,_,hi,h1,h2=>hi _ _ _ h1 h2
 | (n,k) :: r,h,acc,x,y,c,hl,hi,h1,h2=>by
  unfold cellsFrom at h1 h2
  split at h1
  ·rename_i hk
   rw [if_pos hk] at h2
   rw [<- Heap.size_push h { cls:=.type "cell",data:=.cell none }] at h1 h2
   refine cells_inj (h:=h.push _) (fun p hp=>?_) (fun x y c a b=>?_) h1 h2
   ·rw [Heap.size_push]
    rcases List.mem_cons.mp hp with rfl | hp
    ·exact Nat.lt_succ_self _
    ·exact Nat.lt_succ_of_lt (hl p hp)
   ·rcases List.mem_cons.mp a with e | a <;> rcases List.mem_cons.mp b with e' | b
    ·cases e; cases e'; rfl
    ·cases e; exact absurd (hl _ b) (Nat.lt_irrefl _)
    ·cases e'; exact absurd (hl _ a) (Nat.lt_irrefl _)
    ·exact hi _ _ _ a b
  ·rename_i hk
   rw [if_neg hk] at h2
   exact cells_inj hl hi h1 h2
theorem newEnv_comp {M:Model} {A:Around} {E:Value->Shared->Prop} {s:Shared} {scope:Scope} {globals:Addr} {closure:List (Str×Addr)} {qual:Str} {func:Option Addr} {code:Value} {around:Env} {builtins:Addr} {Q:Env->Shared->Prop}
  (h:Q (newEnv scope s.heap.objs.size globals (cellsFrom (s.heap.objs.size+1) scope.names closure) qual func code (some around) builtins)
   { s with heap:=pushCells (s.heap.push { cls:=.type "dict",data:=.dict #[] }) scope.names }) :
  wpAny M A (newFunctionEnv scope globals closure [] qual func code (some around) builtins) Q E s:=by
 simp only [newFunctionEnv,Option.isSome_some,if_true]
 refine wpAny_bind (wpAny_alloc ?_)
 refine wpAny_bind (wpAny_layCells _ (fun n k c=>rfl) scope.names closure _ _ ?_)
 rw [show ({ s with heap:=s.heap.push { cls:=.type "dict",data:=.dict #[] } }:Shared).heap.objs.size=s.heap.objs.size+1 from Heap.size_push ..]
 rw [List.forIn_nil]
 exact wpAny_bind (wpAny_pure (wpAny_pure h))
theorem lookup_relS {sc:Scope}:∀ {names:List (Str×NameKind)} {x:Str} {k:NameKind},
  (names.map fun (n,k)=>if (k == NameKind.free && sc.kind == .function && sc.names.lookup n == some .cell) then (n,NameKind.cell) else (n,k)).lookup x=some k ->
  ∃ k',names.lookup x=some k'/\(k=k'\/(k'=.free/\k=.cell))
 | [],_,_,h=>by simp at h
 | (n,k₀) :: r,x,k,h=>by
  have ih:=@lookup_relS sc r x k
  have h':List.lookup x ((if (k₀ == NameKind.free && sc.kind == .function && sc.names.lookup n == some .cell)=true then (n,NameKind.cell) else (n,k₀)) :: (r.map _))=some k:=h
  cases hx:x == n with
  | true =>
   simp only [List.lookup_cons,hx]
   by_cases hc:(k₀ == NameKind.free && sc.kind == .function && sc.names.lookup n == some .cell)=true
   ·rw [if_pos hc] at h'
    simp only [List.lookup_cons,hx] at h'
    cases h'
    simp only [Bool.and_eq_true,beq_iff_eq] at hc
    exact ⟨k₀,rfl,.inr ⟨hc.1.1,rfl⟩⟩
   ·rw [if_neg hc] at h'
    simp only [List.lookup_cons,hx] at h'
    cases h'
    exact ⟨_,rfl,.inl rfl⟩
  | false =>
   simp only [List.lookup_cons,hx]
   by_cases hc:(k₀ == NameKind.free && sc.kind == .function && sc.names.lookup n == some .cell)=true
   ·rw [if_pos hc] at h'
    simp only [List.lookup_cons,hx] at h'
    exact ih h'
   ·rw [if_neg hc] at h'
    simp only [List.lookup_cons,hx] at h'
    exact ih h'
structure BlkOk (N:List Str) (sc scope:Scope) (own:List (Str×Nat)):Prop where
 kind:scope.kind=.function
 uniq:∀ y ∈ scope.names,scope.names.lookup y.1=some y.2
 ix:∀ p ∈ own,N[p.2]?=some p.1
 free:∀ y ∈ scope.names,y.2=.free->sc.names.lookup y.1=some .cell\/sc.names.lookup y.1=some .free
 own:∀ y ∈ scope.names,y.2=.local\/y.2=.cell->y.1 ∈ own.map (·.1)\/y.1 ∉ N
def wipe (σ:St):List Nat->St
 | []=>σ
 | v :: vs=>(wipe σ vs).set v none
theorem wipe_length (σ:St):∀ vs:List Nat,(wipe σ vs).length=σ.length
 | []=>rfl
 | v :: vs=>by unfold wipe; rw [List.length_set,wipe_length σ vs]
theorem wipe_some {σ:St} {i:Nat} {x:V}:∀ {vs:List Nat},(wipe σ vs)[i]?=some (some x)->σ[i]?=some (some x)/\i ∉ vs
 | [],h=>⟨h,by simp⟩
 | v :: vs,h=>by
  unfold wipe at h
  by_cases hi:v=i
  ·subst hi
   by_cases hv:v < (wipe σ vs).length
   ·rw [List.getElem?_set_self hv] at h; cases h
   ·rw [List.getElem?_eq_none (by simpa using hv)] at h; cases h
  ·rw [List.getElem?_set_ne hi] at h
   obtain ⟨h1,h2⟩:=wipe_some h
   exact ⟨h1,by simp only [List.mem_cons,not_or]; exact ⟨fun e=>hi e.symm,h2⟩⟩
abbrev Cx.blk (X:Cx) (s:Shared) (H:Hp) (scope:Scope) (cenv:Env) (fp:List Addr):Cx:={ X with s_0:=s,H_0:=H,env:=cenv,outer:=X.stack,ex:=fp,fn:=fun x=>scope.names.lookup x == some .cell,pn:=[],xe:=fun _ _=>False }
section
variable {X:Cx} {pins:List (Addr×Obj)} {σ:St} {H:Hp} {s:Shared}
theorem block_start {scope:Scope} {own:List (Str×Nat)} {fp:List Addr} (I:Inv X pins σ H s) (ok:BlkOk X.N X.env.scope scope own) (hN:X.N.Nodup) (hfp:∀ b ∈ fp,FpOk X pins H b/\b < s.heap.objs.size) :
  Inv (X.blk s H scope (compEnvC scope (cellsFrom (s.heap.objs.size+1) scope.names (cloFrom X.env.cells scope.names [])) s.heap.objs.size X.env) fp) [] (wipe σ (own.map (·.2))) H { s with heap:=pushCells (s.heap.push { cls:=.type "dict",data:=.dict #[] }) scope.names }:=by
 have hfree:∀ y ∈ scope.names,y.2=.free->∃ c,X.env.cells.lookup y.1=some c:=fun y hy e=>by
  rcases ok.free y hy e with k | k
  ·exact I.ok.has _ (.inl k)
  ·exact I.ok.has _ (.inr k)
 generalize hcenv:compEnvC scope (cellsFrom (s.heap.objs.size+1) scope.names (cloFrom X.env.cells scope.names [])) s.heap.objs.size X.env=cenv
 have kp:∀ b o,s.heap.get? b=some o->(pushCells (s.heap.push { cls:=.type "dict",data:=.dict #[] }) scope.names).get? b=some o:=fun b o e=>pushCells_keeps _ _ _ _ (Heap.get?_push_of_some _ e)
 have hL:cenv.locals=s.heap.objs.size:=by rw [<- hcenv]; rfl
 have hcl:cenv.cells=cellsFrom (s.heap.objs.size+1) scope.names (cloFrom X.env.cells scope.names []):=by rw [<- hcenv]; rfl
 have hsc:cenv.scope=relS scope X.env.scope:=by rw [<- hcenv]; rfl
 rw [<- Heap.size_push s.heap { cls:=.type "dict",data:=.dict #[] }] at hcl
 have cm:∀ {y c},(y,c) ∈ cloFrom X.env.cells scope.names []->X.env.cells.lookup y=some c/\c < s.heap.objs.size:=fun {y c} hm=>by
  rcases cloFrom_mem hm with hm | ⟨h1,rfl⟩
  ·cases hm
  ·obtain ⟨c,hc⟩:=hfree _ h1 rfl
   rw [hc]
   obtain ⟨w,z⟩:=I.cell _ _ hc
   exact ⟨rfl,z.lt⟩
 have mem:∀ {y c},cenv.cells.lookup y=some c->(X.env.cells.lookup y=some c/\c < s.heap.objs.size)\/(s.heap.objs.size+1<=c/\CellAt (pushCells (s.heap.push { cls:=.type "dict",data:=.dict #[] }) scope.names) c none):=fun {y c} e=>by
  rw [hcl] at e
  rcases cells_mem (PySem.mem_of_lookup e) with hm | ⟨_,h2,h3⟩
  ·exact .inl (cm hm)
  ·rw [Heap.size_push] at h2; exact .inr ⟨h2,h3⟩
 have look:∀ {y},scope.names.lookup y=some .free->∃ c,cenv.cells.lookup y=some c/\X.env.cells.lookup y=some c:=fun {y} hl=>by
  have hy:(y,NameKind.free) ∈ scope.names:=PySem.mem_of_lookup hl
  obtain ⟨c',e'⟩:=mem_lookup (cells_acc (names:=scope.names) (n:=(s.heap.push { cls:=.type "dict",data:=.dict #[] }).objs.size) (cloFrom_has (cells:=X.env.cells) (acc:=[]) hy))
  rw [<- hcl] at e'
  refine ⟨c',e',?_⟩
  rw [hcl] at e'
  rcases cells_mem (PySem.mem_of_lookup e') with hm | ⟨h1,_,_⟩
  ·exact (cm hm).1
  ·have:=ok.uniq _ h1
   rw [hl] at this; cases this
 have okB:(X.blk s H scope cenv fp).Ok:=by
  refine ⟨I.ok.mod,by show cenv.scope.kind=_; rw [hsc]; exact ok.kind,by show cenv.globals=_; rw [<- hcenv]; exact I.ok.glob,by show cenv.builtins=_; rw [<- hcenv]; exact I.ok.blt,by show s.heap.objs.size<=cenv.locals; rw [hL]; exact Nat.le_refl _,
   fun y z c e1 e2=>?_,fun y hy=>?_,fun y c z e=>?_,I.ok.hd,I.ok.frames,.inl rfl,fun b hb=>⟨?_,fun y c e z=>?_⟩,I.bs,Nat.le_trans I.ok.bsz I.sz,fun b o e hb=>?_,fun b hb z=>?_,I.stack,I.stkFree⟩
  ·have e1:cenv.cells.lookup y=some c:=e1
   have e2:cenv.cells.lookup z=some c:=e2
   rw [hcl] at e1 e2
   refine cells_inj (fun p hp=>?_) (fun y z c a b=>I.ok.inj y z c (cm a).1 (cm b).1) (PySem.mem_of_lookup e1) (PySem.mem_of_lookup e2)
   rw [Heap.size_push]
   exact Nat.lt_succ_of_lt (cm (y:=p.1) (c:=p.2) hp).2
  ·show ∃ c,cenv.cells.lookup y=some c
   have key:∀ k,cenv.kindOf y=some k->(k=.cell\/k=.free)->∃ c,cenv.cells.lookup y=some c:=fun k hk hk'=>by
    unfold Env.kindOf at hk
    rw [hsc] at hk
    obtain ⟨k',e,r⟩:=lookup_relS hk
    have:k'=.cell\/k'=.free:=by
     rcases r with rfl | ⟨rfl,_⟩
     ·exact hk'
     ·exact .inr rfl
    rcases this with rfl | rfl
    ·obtain ⟨c,hm⟩:=cells_has (n:=(s.heap.push { cls:=.type "dict",data:=.dict #[] }).objs.size) (acc:=cloFrom X.env.cells scope.names []) (PySem.mem_of_lookup e)
     obtain ⟨c',e'⟩:=mem_lookup hm
     exact ⟨c',by rw [hcl]; exact e'⟩
    ·obtain ⟨c,h1,_⟩:=look e
     exact ⟨c,h1⟩
   rcases hy with hy | hy
   ·exact key _ hy (.inl rfl)
   ·exact key _ hy (.inr rfl)
  ·have z:(scope.names.lookup y == some NameKind.cell)=true:=z
   have z:scope.names.lookup y=some .cell:=by simpa using z
   have e:cenv.cells.lookup y=some c:=e
   rw [hcl] at e
   rcases cells_mem (PySem.mem_of_lookup e) with hm | ⟨_,h2,_⟩
   ·rcases cloFrom_mem hm with hm | ⟨h1,_⟩
    ·cases hm
    ·have q:=ok.uniq _ h1
     rw [z] at q; cases q
   ·rw [Heap.size_push] at h2
    exact Nat.le_of_succ_le h2
  ·show b≠cenv.locals
   rw [hL]; exact Nat.ne_of_lt (hfp b hb).2
  ·have e:cenv.cells.lookup y=some c:=e
   rcases mem e with ⟨h1,_⟩ | ⟨h1,_⟩
   ·exact (hfp b hb).1.2.2.2.2.1 y c h1 z
   ·have h2:s.heap.objs.size+1<=b:=by rw [<- z]; exact h1
    exact absurd (Nat.lt_of_lt_of_le (hfp b hb).2 (Nat.le_of_succ_le h2)) (Nat.lt_irrefl _)
  ·rcases (hfp b hb).1.2.2.2.1 with z | z
   ·exact I.ok.noex b o e z
   ·exact absurd (Nat.lt_of_lt_of_le (Heap.lt_size e) (Nat.le_trans I.ok.bsz z)) (Nat.lt_irrefl _)
  ·rcases List.mem_cons.mp (I.stkSub b z) with z | z
   ·exact (hfp b hb).1.2.1 z
   ·exact (hfp b hb).1.2.2.1 z
 refine ⟨okB,rfl,I.bare,Un.kept kp,⟨fun _=>none,?_,fun i y av e1 e2 e3=>?_⟩,fun y c e=>?_,?_,fun y c e=>?_,fun p hp=>?_,I.hok.kept kp,by rw [wipe_length]; exact I.len⟩
 ·show Heap.Ns _ cenv.locals _
  rw [hL]
  exact Heap.Ns.keeps (Heap.Ns.new ..) fun b o e=>pushCells_keeps _ _ _ _ e
 ·obtain ⟨e2,hne⟩:=wipe_some e2
  have hfr:scope.names.lookup y=some .free/\(cenv.kindOf y=some .cell\/cenv.kindOf y=some .free):=by
   have key:∀ k,cenv.scope.names.lookup y=some k->k=.local\/k=.cell\/k=.free->scope.names.lookup y=some .free/\(cenv.kindOf y=some .cell\/cenv.kindOf y=some .free):=fun k hk hk'=>by
    have hk0:=hk
    rw [hsc] at hk
    obtain ⟨k',e,r⟩:=lookup_relS hk
    have no:¬ (k'=.local\/k'=.cell):=fun hh=>by
     rcases ok.own _ (PySem.mem_of_lookup e) hh with e' | e'
     ·obtain ⟨p,hp,hpy⟩:=List.mem_map.mp e'
      have e3:=ok.ix p hp
      have:p.1=y:=hpy
      rw [this] at e3
      exact hne (List.mem_map.mpr ⟨p,hp,nodup_ix hN e3 e1⟩)
     ·exact e' (List.mem_of_getElem? e1)
    rcases r with rfl | ⟨rfl,rfl⟩
    ·rcases hk' with rfl | rfl | rfl
     ·exact absurd (.inl rfl) no
     ·exact absurd (.inr rfl) no
     ·exact ⟨e,.inr hk0⟩
    ·exact ⟨e,.inl hk0⟩
   have e3:Vis cenv.scope y:=e3
   rcases e3 with e3 | e3 | e3
   ·exact key _ e3 (.inl rfl)
   ·exact key _ e3 (.inr (.inl rfl))
   ·exact key _ e3 (.inr (.inr rfl))
  obtain ⟨m,hn,hl⟩:=I.loc
  have hvis:Vis X.env.scope y:=(ok.free _ (PySem.mem_of_lookup hfr.1) rfl).elim (fun k=>.inr (.inl k)) (fun k=>.inr (.inr k))
  obtain ⟨w,r,q⟩:=hl i y av e1 e2 hvis
  refine ⟨w,r,.inr ⟨hfr.2,?_⟩⟩
  obtain ⟨c,h1,h2⟩:=look hfr.1
  rcases q with ⟨k,_⟩ | ⟨_,c',e',z⟩
  ·have k:X.env.scope.names.lookup y=some .local:=k
   rcases ok.free _ (PySem.mem_of_lookup hfr.1) rfl with k' | k' <;> rw [show X.env.scope.names.lookup y=_ from k'] at k <;> cases k
  ·rw [h2] at e'; cases e'
   exact ⟨c,h1,z.keeps kp⟩
 ·have e:cenv.cells.lookup y=some c:=e
  rcases mem e with ⟨h1,_⟩ | ⟨_,z⟩
  ·obtain ⟨w,z⟩:=I.cell y c h1
   exact ⟨w,z.keeps kp⟩
  ·exact ⟨_,z⟩
 ·show H cenv.locals=none
  rw [hL]; exact I.hok.fresh (Nat.le_refl _)
 ·have e:cenv.cells.lookup y=some c:=e
  rcases mem e with ⟨h1,_⟩ | ⟨h1,_⟩
  ·exact I.freeC y c h1
  ·exact I.hok.fresh (Nat.le_of_succ_le h1)
 ·exact absurd (show p ∈ ([]:List (Addr×Obj))++[] from hp) (by simp)
theorem app_ok {E:Value->Shared->Prop} {D:Addr} {xs:List V} {y:V} {v:Value} {Q:Value->Shared->Prop} (I:Inv X pins σ H s) (hD:H D=some (.lst xs)) (hz:xs.length < sizeLine) (r:RelV y v)
  (h:∀ s',Inv X pins σ (upd H D (.lst (xs++[y]))) s'->Q .none s'):wpAny (model X.prog X.w) X.A (call (.builtin "list.append") [.ref D,v]) Q E s:=by
 obtain ⟨hz',its,n,ri,e⟩:=I.hok D _ hD
 have hl:=ri.length
 refine append_at (hsz:=by rw [List.size_toArray]; omega) e fun h' sb ho'=>?_
 refine h { s with heap:=h' } (I.write (t':=s.toks) (by rw [hD]; trivial) (.inl rfl) (fun b u hb q=>(sb.2 b hb).trans q) ⟨_,ho'⟩ ⟨by rw [List.length_append]; exact hz,its++[v],n+1,ri.append (.cons r .nil),?_⟩)
 rw [ho']
 simp
def PTs (X:Cx) (ifs:List Expr) (t:TT):Prop :=
 ∀ (pins:List (Addr×Obj)) (s:Shared) (σ:St) (H:Hp) (Q:Bool->Hp->Prop),Inv X pins σ H s->t σ H Q ->
  wpAny (model X.prog X.w) X.A (forIn ifs true fun c r=>if r=true then do let ok <- isTrue c X.env (eval c X.env); pure (ForInStep.yield ok) else pure (ForInStep.yield r)) (TP X pins σ Q) X.xe s
def tYes:TT:=fun _ H Q=>Q true H
theorem pts_nil:PTs X [] tYes:=fun _ _ _ H _ I h=>wpAny_tests_nil ⟨H,I,h⟩
end
theorem thnF {α:Type} {t:Sem α} {Q Q':α->Shared->Prop} {M:Model} {A:Around} {E:Value->Shared->Prop} {s:Shared} (h:wpAny M A t Q (fun _ _=>False) s) (hQ:∀ a s,Q a s->Q' a s):wpAny M A t Q' E s:=wpAny_mono h hQ fun _ _ z=>False.elim z
theorem compLoop_any {prog:Program} {w:World} {A:Around} {R:Result->Shared->Prop} {s:Shared} {elt target iter:Expr} {ifs:List Expr} {scope:Scope} {pos:Pos} {it acc:Value} {env:Env} (I:Nat->Shared->Prop)
  (turn:∀ n s,I n s->wpAny (model prog w) A (pyNext it) (fun r s₁=>match r with
   | none=>R (.ok .next) s₁
   | some v=>wpAny (model prog w) A (letOwnedTupleGo target it v) (fun _ s₁'=>wpAny (model prog w) A (assign target env v) (fun _ s₂ =>
     wpAny (model prog w) A (forIn ifs true fun c r=>if r=true then do let ok <- isTrue c env (eval c env); pure (ForInStep.yield ok) else pure (ForInStep.yield r)) (fun ok s₃ =>
      if ok=true then wpAny (model prog w) A (eval elt env) (fun x s₄ =>
       wpAny (model prog w) A (call (.builtin "list.append") [acc,x]) (fun _ s₅=>∃ m,m < n/\I m s₅) (notedBy (model prog w) A env fun e s'=>R (.error e) s') s₄) (notedBy (model prog w) A env fun e s'=>R (.error e) s') s₃
      else ∃ m,m < n/\I m s₃) (notedBy (model prog w) A env fun e s'=>R (.error e) s') s₂) (notedBy (model prog w) A env fun e s'=>R (.error e) s') s₁') (notedBy (model prog w) A env fun e s'=>R (.error e) s') s₁) (notedBy (model prog w) A env fun e s'=>R (.error e) s') s)
  (n:Nat) (h:I n s) :
  codeAny (model prog w) A (.compLoop (.ListComp elt [⟨target,iter,ifs,0⟩] scope pos) 0 it acc env) R s:=by
 refine codeAny_loop rfl I (fun n s hI=>?_) n h
 show wpAny _ A ((compTurn (.ListComp elt [⟨target,iter,ifs,0⟩] scope pos) 0 it acc env).onRaise (fun x=>do noteFrame x env; theTreesLotGoes x)) _ _ s
 refine wpAny_noted ?_
 rw [compTurn_list]
 refine wpAny_bind (wpAny_standAt (wpAny_bind (wpAny_mono (turn n s hI) (fun r s₁ h₁=>?_) fun _ _ h'=>h')))
 cases r with
 | none=>exact wpAny_pure h₁
 | some v =>
  refine wpAny_bind (wpAny_mono h₁ (fun _ s₁' h₁'=>?_) fun _ _ h'=>h')
  refine wpAny_bind (wpAny_mono h₁' (fun _ s₂ h₂=>wpAny_bind (wpAny_mono h₂ (fun ok s₃ h₃=>?_) fun _ _ h'=>h')) fun _ _ h'=>h')
  cases ok with
  | false=>exact wpAny_pure ⟨rfl,h₃⟩
  | true =>
   exact wpAny_bind (wpAny_bind (wpAny_mono h₃ (fun x s₄ h₄=>wpAny_bind (wpAny_mono h₄ (fun _ s₅ h₅=>wpAny_pure (wpAny_pure ⟨rfl,h₅⟩)) fun _ _ h'=>h')) fun _ _ h'=>h'))
section
variable {X:Cx}
def tLc (wi:TI) (g:TG) (tt:TT) (te:TE) (vs:List Nat):TE:=fun σ H Q=>wi σ H fun J H1=>∀ D,H1 D=none->∃ W:Nat->Nat->Hp->Prop,(∃ m,W 0 m (upd H1 D (.lst [])))/\∀ i m H,W i m H ->
 (J.stop i H/\Q (.ref D) H)\/(J.go i H/\∃ Nx:Hp->Prop,(∀ H',Nx H'->∃ m',m' < m/\W (i+1) m' H')/\∀ x H',J.yld i H x H'->g x (wipe σ vs) H' fun σ2 H2=>wipe σ2 vs=wipe σ vs/\tt σ2 H2 fun b H3 =>
  if b=true then te σ2 H3 fun y H4=>∃ acc,H4 D=some (.lst acc)/\acc.length < sizeLine/\Nx (upd H4 D (.lst (acc++[y]))) else Nx H3)
theorem lc_core {pins:List (Addr×Obj)} {s:Shared} {σ:St} {H:Hp} {Q:VK} {elt tg iter:Expr} {ifs:List Expr} {scope:Scope} {own:List (Str×Nat)} {pos pos':Pos} {wi:TI} {g:TG} {tt:TT} {te:TE} {use:Option (Value->Sem Unit)} {Qf:Value->Shared->Prop}
  (hc:X.calm=true) (hN:X.N.Nodup) (I:Inv X pins σ H s) (hi:PI X tg iter wi) (ok:BlkOk X.N X.env.scope scope own)
  (hg:∀ (s:Shared) (H:Hp) (C:Addr) (cl:List (Str×Addr)) (fp:List Addr),PG (X.blk s H scope (compEnvC scope cl C X.env) fp) tg g) (ht:∀ (s:Shared) (H:Hp) (C:Addr) (cl:List (Str×Addr)) (fp:List Addr),PTs (X.blk s H scope (compEnvC scope cl C X.env) fp) ifs tt)
  (he:∀ (s:Shared) (H:Hp) (C:Addr) (cl:List (Str×Addr)) (fp:List Addr),PE (X.blk s H scope (compEnvC scope cl C X.env) fp) elt te) (hs:∀ x,foldedSetIterable iter X.env x=pure x)
  (h:tLc wi g tt te (own.map (·.2)) σ H Q)
  (hRR:∀ D C s' m H',Inv X pins σ H' s'->Q (.ref D) H'->s'.heap.Ns C m->FpOk X pins H' C->compPost (model X.prog X.w) X.A X.xe use Qf (.ref D) C (.ok .next) s') :
  wpAny (model X.prog X.w) X.A (comprehension (.ListComp elt [⟨tg,iter,ifs,0⟩] scope pos) scope X.env pos' (newList []) false (eval iter X.env) use) Qf X.xe s:=by
 have hfree:∀ y ∈ scope.names,y.2=.free->∃ c,X.env.cells.lookup y.1=some c:=fun y hy e=>by
  rcases ok.free y hy e with k | k
  ·exact I.ok.has _ (.inl k)
  ·exact I.ok.has _ (.inr k)
 refine wpAny_comprehension_free (use:=use) rfl hs (closure_ok hfree) ok.kind (fun y hy e=>by rw [ok.uniq y hy,e])
  (thn (hi pins s σ H _ I h) fun xv s1 hx=>thn hx fun itv s2 h2=>?_)
 obtain ⟨it,fp,tn,J,H2,e,I2,T,st2,f2,q⟩:=h2
 subst e
 refine wpAny_newObj_type (newEnv_comp ?_) (by show 0<=sizeLine; decide)
 generalize hD:s2.heap.objs.size=D
 have hDn:H2 D=none:=I2.hok.fresh (Nat.le_of_eq hD)
 obtain ⟨W,⟨m0,w0⟩,turn⟩:=q D hDn
 generalize hs3:({ s2 with heap:=s2.heap.push { cls:=.type "list",data:=.seq ([]:List Value).toArray } }:Shared)=s3
 have I3:Inv X pins σ (upd H2 D (.lst [])) s3:=by
  rw [<- hs3]
  refine I2.laid (t':=s2.toks) (fun b o e=>Heap.get?_push_of_some _ e) (Nat.le_of_eq hD) ⟨Nat.zero_le _,[],0,.nil,?_⟩
  rw [<- hD]
  exact Heap.get?_push_size _ rfl
 have h3:s3.heap=s2.heap.push { cls:=.type "list",data:=.seq ([]:List Value).toArray }:=by rw [<- hs3]
 have sz:∀ b ∈ fp,b < s2.heap.objs.size:=fun b hb=>by
  obtain ⟨o,e,_⟩:=T.obj _ _ st2 b hb
  exact Heap.lt_size e
 have f3:∀ b ∈ fp,FpOk X pins (upd H2 D (.lst [])) b/\b < s3.heap.objs.size:=fun b hb=>by
  have hlt:=sz b hb
  refine ⟨⟨?_,(f2 b hb).2⟩,by rw [h3,Heap.size_push]; exact Nat.lt_succ_of_lt hlt⟩
  rw [upd_ne (by rw [<- hD]; exact Nat.ne_of_lt hlt)]
  exact (f2 b hb).1
 have st3:tn 0 s3.heap:=T.keep _ _ _ st2 fun b _ o e=>by rw [h3]; exact Heap.get?_push_of_some _ e
 have I4:=block_start I3 ok hN f3
 have pg:=hg s3 (upd H2 D (.lst [])) s3.heap.objs.size (cellsFrom (s3.heap.objs.size+1) scope.names (cloFrom X.env.cells scope.names [])) fp
 have pt:=ht s3 (upd H2 D (.lst [])) s3.heap.objs.size (cellsFrom (s3.heap.objs.size+1) scope.names (cloFrom X.env.cells scope.names [])) fp
 have pe:=he s3 (upd H2 D (.lst [])) s3.heap.objs.size (cellsFrom (s3.heap.objs.size+1) scope.names (cloFrom X.env.cells scope.names [])) fp
 show codeAny _ _ (.compStart (.ListComp elt [⟨tg,iter,ifs,0⟩] scope pos) 0 (.ref it) (.ref D) (compEnvC scope (cellsFrom (s3.heap.objs.size+1) scope.names (cloFrom X.env.cells scope.names [])) s3.heap.objs.size X.env)) (compPost (model X.prog X.w) X.A X.xe use Qf (.ref D) s3.heap.objs.size) { s3 with heap:=pushCells (s3.heap.push { cls:=.type "dict",data:=.dict #[] }) scope.names }
 have nfp:∀ b ∈ fp,(upd H2 D (.lst [])) b=none:=fun b hb=>(f3 b hb).1.1
 generalize hce:compEnvC scope (cellsFrom (s3.heap.objs.size+1) scope.names (cloFrom X.env.cells scope.names [])) s3.heap.objs.size X.env=ce at I4 pg pt pe ⊢
 have cL:ce.locals=s3.heap.objs.size:=by subst hce; rfl
 generalize hH3:upd H2 D (.lst [])=H3 at I3 I4 pg pt pe w0 nfp f3
 generalize hs4:({ s3 with heap:=pushCells (s3.heap.push { cls:=.type "dict",data:=.dict #[] }) scope.names }:Shared)=s4 at I4 ⊢
 have st4:tn 0 s4.heap:=T.keep _ _ _ st3 fun b _ o e=>by rw [<- hs4]; exact pushCells_keeps _ _ _ _ (Heap.get?_push_of_some _ e)
 have stat:∀ {σ':St} {H':Hp} {s':Shared},Inv (X.blk s3 H3 scope ce fp) [] σ' H' s'->(∀ b ∈ fp,H' b=none)->∀ b ∈ fp,FpOk (X.blk s3 H3 scope ce fp) [] H' b:=fun {σ' H' s'} I' hn b hb =>
  ⟨hn b hb,(I'.ok.exf b hb).1,I'.ok.exfs b hb,.inl hb,fun x c e=>(I'.ok.exf b hb).2 x c e,fun p hp=>absurd (show p ∈ ([]:List (Addr×Obj))++[] from hp) (by simp)⟩
 have loop:codeAny (model X.prog X.w) X.A (.compLoop (.ListComp elt [⟨tg,iter,ifs,0⟩] scope pos) 0 (.ref it) (.ref D) ce) (compPost (model X.prog X.w) X.A X.xe use Qf (.ref D) s3.heap.objs.size) s4:=by
  refine compLoop_any (fun n s'=>∃ i H',Inv (X.blk s3 H3 scope ce fp) [] (wipe σ (own.map (·.2))) H' s'/\tn i s'.heap/\(∀ b ∈ fp,H' b=none)/\W i n H') ?_ m0 ⟨0,H3,I4,st4,nfp,w0⟩
  rintro n s5 ⟨i,H5,I5,st5,n5,w5⟩
  rcases turn i n H5 w5 with ⟨stop,qq⟩ | ⟨go,Nx,hNx,step⟩
  ·have td:=T.done (X.blk s3 H3 scope ce fp) rfl rfl rfl hc i [] s5 _ H5 (fun _ _=>False) I5 (stat I5 n5) st5 stop
   refine thnF td fun r s6 ⟨hr,I6⟩=>?_
   subst hr
   have I7:Inv X pins σ H5 s6:=I3.call' (ch:=fp) I6.os I6.base I6.hok I6.bare fun b hb=>⟨(f3 b hb).1.2.2.2.1,(f3 b hb).1.2.1,(f3 b hb).1.2.2.2.2.1,(f3 b hb).1.2.2.2.2.2⟩
   have nC:H5 s3.heap.objs.size=none:=by
    have z:H5 ce.locals=none:=I6.free
    rw [cL] at z
    exact z
   obtain ⟨m,hn,_⟩:=I6.loc
   have hn:s6.heap.Ns ce.locals m:=hn
   rw [cL] at hn
   exact hRR D s3.heap.objs.size s6 m H5 I7 qq hn (I3.fpOk (Nat.le_refl _) nC)
  ·have ti:=T.item (X.blk s3 H3 scope ce fp) rfl rfl rfl hc i [] s5 _ H5 (fun _ _=>False) I5 (stat I5 n5) st5 go
   refine thnF ti fun r s6 ⟨u,hr,h6⟩=>?_
   subst hr
   refine thnF h6 fun _ s7 ⟨x,H7,I7,r7,y7,st7,n7⟩=>?_
   have I7':=I7.pinned (stat I7 n7) (T.obj _ _ st7)
   refine thnF (pg _ s7 _ H7 x u _ I7' r7 (step x H7 y7)) fun _ s8 ⟨σ8,H8,I8,hw8,q8⟩=>?_
   refine thnF (pt _ s8 σ8 H8 _ I8 q8) fun b s9 ⟨H9,I9,q9⟩=>?_
   have fin:∀ {s':Shared} {H':Hp},Inv (X.blk s3 H3 scope ce fp) ([]++pinsAt fp s7.heap) σ8 H' s'->Nx H'->∃ m,m < n/\∃ i H',Inv (X.blk s3 H3 scope ce fp) [] (wipe σ (own.map (·.2))) H' s'/\tn i s'.heap/\(∀ b ∈ fp,H' b=none)/\W i m H':=fun {s' H'} I' nx=>by
    obtain ⟨m',hm,w'⟩:=hNx H' nx
    have pin':∀ b ∈ fp,∀ o,s7.heap.get? b=some o->s'.heap.get? b=some o/\H' b=none:=fun b hb o e =>
     let z:=I'.pin (b,o) (List.mem_append_right _ (List.mem_append_right _ (mem_pinsAt hb e)))
     ⟨z.1,z.2.1⟩
    have hl:(wipe σ (own.map (·.2))).length=σ8.length:=by rw [<- hw8,wipe_length]
    refine ⟨m',hm,i+1,H',(I'.unpinned (pins:=[])).weak hl (fun j v e=>?_),T.keep _ _ _ st7 fun b hb o e=>(pin' b hb o e).1,fun b hb=>?_,w'⟩
    ·rw [<- hw8] at e
     exact (wipe_some e).1
    ·obtain ⟨o,e,_⟩:=T.obj _ _ st7 b hb
     exact (pin' b hb o e).2
   cases b with
   | false =>
    simp only [Bool.false_eq_true,if_false] at q9 ⊢
    exact fin I9 q9
   | true =>
    simp only [if_true] at q9 ⊢
    refine thnF (pe _ s9 σ8 H9 _ I9 q9) fun z s10 ⟨yv,H10,I10,r10,acc,hD10,hz10,nx⟩=>?_
    exact app_ok (X:=X.blk s3 H3 scope ce fp) I10 hD10 hz10 r10 fun s11 I11=>fin I11 nx
 exact codeAny_compStart_list loop (T.self X.A 0 _ _ _ st4 loop)
theorem pe_lc {elt tg iter:Expr} {ifs:List Expr} {scope:Scope} {own:List (Str×Nat)} {pos:Pos} {wi:TI} {g:TG} {tt:TT} {te:TE} (hc:X.calm=true) (hN:X.N.Nodup) (hi:PI X tg iter wi) (ok:BlkOk X.N X.env.scope scope own)
  (hg:∀ (s:Shared) (H:Hp) (C:Addr) (cl:List (Str×Addr)) (fp:List Addr),PG (X.blk s H scope (compEnvC scope cl C X.env) fp) tg g) (ht:∀ (s:Shared) (H:Hp) (C:Addr) (cl:List (Str×Addr)) (fp:List Addr),PTs (X.blk s H scope (compEnvC scope cl C X.env) fp) ifs tt)
  (he:∀ (s:Shared) (H:Hp) (C:Addr) (cl:List (Str×Addr)) (fp:List Addr),PE (X.blk s H scope (compEnvC scope cl C X.env) fp) elt te) (hs:∀ x,foldedSetIterable iter X.env x=pure x:=by intro _; rfl) :
  PE X (.ListComp elt [⟨tg,iter,ifs,0⟩] scope pos) (tLc wi g tt te (own.map (·.2))):=by
 intro pins s σ H Q I h
 rw [eval_ListComp]
 refine lc_core hc hN I hi ok hg ht he hs h fun D C s' m H' I' q hn f=>⟨m,hn,fun h'' sb=>?_⟩
 obtain ⟨f0,f1,f2,f3,f4,f5⟩:=f
 exact ⟨.ref D,H',I'.turned (t':=s'.toks) (fun b o hb e=>(sb.2 b hb).trans e) f0 f1 f3 f4 f5,rfl,q⟩
theorem ps_setLc {i:Nat} {y:Str} {py:Pos} {elt tg iter:Expr} {ifs:List Expr} {scope:Scope} {own:List (Str×Nat)} {pos spos:Pos} {wi:TI} {g:TG} {tt:TT} {te:TE} (hc:X.calm=true) (hN:X.N.Nodup) (hy:X.N[i]?=some y) (hyl:X.env.scope.names.lookup y=some .local)
  (hsw:swapsWith (.ListComp elt [⟨tg,iter,ifs,0⟩] scope pos) (some (.Name y py)) spos.line X.env=pure true) (hi:PI X tg iter wi) (ok:BlkOk X.N X.env.scope scope own)
  (hg:∀ (s:Shared) (H:Hp) (C:Addr) (cl:List (Str×Addr)) (fp:List Addr),PG (X.blk s H scope (compEnvC scope cl C X.env) fp) tg g) (ht:∀ (s:Shared) (H:Hp) (C:Addr) (cl:List (Str×Addr)) (fp:List Addr),PTs (X.blk s H scope (compEnvC scope cl C X.env) fp) ifs tt)
  (he:∀ (s:Shared) (H:Hp) (C:Addr) (cl:List (Str×Addr)) (fp:List Addr),PE (X.blk s H scope (compEnvC scope cl C X.env) fp) elt te) (hs:∀ x,foldedSetIterable iter X.env x=pure x:=by intro _; rfl) :
  PS X (.Assign [.Name y py] (.ListComp elt [⟨tg,iter,ifs,0⟩] scope pos) spos) (tAsg (tLc wi g tt te (own.map (·.2))) (gName i)):=by
 intro pins s σ H D I h
 rw [exec_Assign_Name_used _ _ _ _ hsw]
 refine wpAny_bind (wpAny_standAt (wpAny_bind ?_))
 show wpAny _ X.A (do let _ <- comprehension (.ListComp elt [⟨tg,iter,ifs,0⟩] scope pos) scope X.env (firstIterPos [⟨tg,iter,ifs,0⟩] pos) (newList []) false (eval iter X.env) (some (assign (.Name y py) X.env))) _ _ s
 have h:tLc wi g tt te (own.map (·.2)) σ H (fun x H1=>gName i x σ H1 D.nx):=h
 refine wpAny_bind (thn (lc_core (Qf:=fun _ s'=>SP X pins D .next s') hc hN I hi ok hg ht he hs h fun L C s' m H' I' q hn f=>?_) fun _ s' hq=>wpAny_pure (wpAny_pure hq))
 show wpAny _ _ (assign (.Name y py) X.env (.ref L)) _ _ _
 refine wpAny_assign_Name (store_ok2 (v:=V.ref L) I' hN hy (.inl hyl) rfl (fun s2 I2 ⟨a,sb,ha⟩=>?_) (.inr hyl))
 obtain ⟨f0,f1,f2,f3,f4,f5⟩:=f
 have haC:C≠a:=by
  rcases ha with z | z
  ·rw [z]; exact f1
  ·exact fun e=>f4 y a z e.symm
 refine ⟨m,hn.sameBut sb haC,fun h3 sb3=>?_⟩
 exact ⟨_,H',I2.turned (t':=s2.toks) (fun b o hb e=>(sb3.2 b hb).trans e) f0 f1 f3 f4 f5,q⟩
theorem sw_true {elt:Expr} {gs:List Comprehension} {scope:Scope} {pos py:Pos} {y:Str} {l:Nat} {env:Env} (hk:env.scope.kind=.function) (hy:env.scope.names.lookup y=some .local) (hl:(py.line == pos.line)=true)
  (ha:(scope.names.any fun (n,k)=>n == y && (k == .local || k == .cell))=false):swapsWith (.ListComp elt gs scope pos) (some (.Name y py)) l env=pure true:=by
 have ky:env.kindOf y=some .local:=hy
 have hb:env.blockKind=.function:=by unfold Env.blockKind; rw [hk]; rfl
 unfold swapsWith
 simp only [hb,ky,ha,Expr.pos,hl]
 rfl
end
theorem lc_list {K:PySem.W.Frag} {a:Addr} {xs:List V} {g:TG} {tt:TT} {te:TE} {vs:List Nat} {σ:St} {H1:Hp} {D:Addr} {Qd:Hp->Prop} (Pv:Nat->Hp->Prop) (h0:Pv 0 (upd H1 D (.lst []))) (hl:∀ i H,i<=xs.length->Pv i H->SqL K H a xs)
  (hs:∀ i x H,xs[i]?=some x->Pv i H->g x (wipe σ vs) H fun σ2 H2=>wipe σ2 vs=wipe σ vs/\tt σ2 H2 fun b H3 =>
   if b=true then te σ2 H3 fun y H4=>∃ acc,H4 D=some (.lst acc)/\acc.length < sizeLine/\Pv (i+1) (upd H4 D (.lst (acc++[y]))) else Pv (i+1) H3) (hd:∀ H,Pv xs.length H->Qd H) :
  ∃ W:Nat->Nat->Hp->Prop,(∃ m,W 0 m (upd H1 D (.lst [])))/\∀ i m H,W i m H ->
   ((Itl K a).stop i H/\Qd H)\/((Itl K a).go i H/\∃ Nx:Hp->Prop,(∀ H',Nx H'->∃ m',m' < m/\W (i+1) m' H')/\∀ x H',(Itl K a).yld i H x H'->g x (wipe σ vs) H' fun σ2 H2=>wipe σ2 vs=wipe σ vs/\tt σ2 H2 fun b H3 =>
    if b=true then te σ2 H3 fun y H4=>∃ acc,H4 D=some (.lst acc)/\acc.length < sizeLine/\Nx (upd H4 D (.lst (acc++[y]))) else Nx H3):=by
 refine ⟨fun i m H=>m=xs.length-i/\i<=xs.length/\Pv i H,⟨xs.length,by simp,Nat.zero_le _,h0⟩,?_⟩
 rintro i m H ⟨rfl,hi,p⟩
 have q:=hl i H hi p
 by_cases hlt:i < xs.length
 ·refine .inr ⟨⟨xs,xs[i],q,by simp [hlt]⟩,Pv (i+1),fun H' p'=>⟨xs.length-(i+1),by omega,rfl,hlt,p'⟩,fun x H' y=>?_⟩
  obtain ⟨e,y⟩:=y
  subst e
  exact hs i x _ (y xs q) p
 ·have e:i=xs.length:=by omega
  subst e
  exact .inl ⟨⟨xs,q,Nat.le_refl _⟩,hd H p⟩
def blkC (N:List Str) (sc scope:Scope) (own:List (Str×Nat)):Bool :=
 (match scope.kind with | .function=>true | _=>false) && (scope.names.all fun y=>decide (scope.names.lookup y.1=some y.2)) && (own.all fun p=>decide (N[p.2]?=some p.1)) &&
  (scope.names.all fun y=>match y.2 with
   | .free=>(match sc.names.lookup y.1 with | some .cell=>true | some .free=>true | _=>false)
   | .local=>decide (y.1 ∈ own.map (·.1)) || decide (y.1 ∉ N)
   | .cell=>decide (y.1 ∈ own.map (·.1)) || decide (y.1 ∉ N)
   | _=>true)
theorem blkOk_by {N:List Str} {sc scope:Scope} {own:List (Str×Nat)} (h:blkC N sc scope own=true):BlkOk N sc scope own:=by
 unfold blkC at h
 simp only [Bool.and_eq_true,List.all_eq_true,decide_eq_true_eq] at h
 obtain ⟨⟨⟨h1,h2⟩,h3⟩,h4⟩:=h
 refine ⟨?_,h2,h3,fun y hy e=>?_,fun y hy e=>?_⟩
 ·split at h1
  ·assumption
  ·cases h1
 ·have q:=h4 y hy
  simp only [e] at q
  split at q <;> first | exact .inl (by assumption) | exact .inr (by assumption) | cases q
 ·have q:=h4 y hy
  rcases e with e | e <;> (simp only [e,Bool.or_eq_true,decide_eq_true_eq] at q; exact q)
end L2
namespace L2
open PySem PySem.Spec PyProof.Rows
section
variable {prog:Program} {w:World} {A:Around} {R:Result->Shared->Prop} {s:Shared} {elt t0 i0 t1 i1:Expr} {ifs0 ifs1:List Expr} {scope:Scope} {pos:Pos} {it acc:Value} {env:Env}
end
section
variable {X:Cx}
end
end L2
namespace L2
open PySem PySem.Spec PyProof.Rows
section
variable {κ:Type} [DecidableEq κ]
def valV (kvs:List (κ×V)) (k:κ):Option V:=(kvs.find? fun kv=>decide (kv.1=k)).map (·.2)
def putK (kvs:List (κ×V)) (k:κ) (v:V):List (κ×V) :=
 if (kvs.any fun kv=>decide (kv.1=k))=true then kvs.map (fun kv=>if kv.1=k then (kv.1,v) else kv) else kvs++[(k,v)]
def dropK (kvs:List (κ×V)) (k:κ):List (κ×V):=kvs.filter fun kv=>decide (kv.1≠k)
theorem valV_pos {p:κ×V} {r:List (κ×V)} {k:κ} (e:p.1=k):valV (p :: r) k=some p.2:=by simp [valV,List.find?_cons,e]
theorem valV_neg {p:κ×V} {r:List (κ×V)} {k:κ} (e:¬ p.1=k):valV (p :: r) k=valV r k:=by simp [valV,List.find?_cons,e]
theorem valV_any (k:κ):∀ kvs:List (κ×V),(kvs.any fun kv=>decide (kv.1=k))=(valV kvs k).isSome
 | []=>rfl
 | p :: r=>by
  rw [List.any_cons]
  by_cases e:p.1=k
  ·simp only [valV_pos e,decide_eq_true e,Bool.true_or,Option.isSome_some]
  ·rw [valV_neg e,decide_eq_false e,Bool.false_or]; exact valV_any k r
theorem valV_map (k j:κ) (y:V):∀ kvs:List (κ×V),valV (kvs.map fun kv=>if kv.1=k then (kv.1,y) else kv) j=(valV kvs j).map fun x=>if j=k then y else x
 | []=>rfl
 | p :: r=>by
  have ih:=valV_map k j y r
  rw [List.map_cons]
  by_cases h:p.1=k
  ·rw [if_pos h]
   by_cases e:p.1=j
   ·rw [valV_pos (p:=(p.1,y)) e,valV_pos e,Option.map_some,if_pos (e.symm.trans h)]
   ·rw [valV_neg (p:=(p.1,y)) e,valV_neg e,ih]
  ·rw [if_neg h]
   by_cases e:p.1=j
   ·rw [valV_pos (p:=p) e,valV_pos e,Option.map_some,if_neg (fun z=>h (e.trans z))]
   ·rw [valV_neg (p:=p) e,valV_neg e,ih]
theorem valV_snoc (k j:κ) (y:V):∀ kvs:List (κ×V),valV kvs k=none->valV (kvs++[(k,y)]) j=if j=k then some y else valV kvs j
 | [],_=>by
  by_cases e:k=j
  ·rw [if_pos e.symm]; exact valV_pos (p:=(k,y)) e
  ·rw [if_neg (fun z=>e z.symm)]; exact valV_neg (p:=(k,y)) e
 | p :: r,hn=>by
  rw [List.cons_append]
  have hk:¬ p.1=k:=fun z=>by rw [valV_pos z] at hn; cases hn
  rw [valV_neg hk] at hn
  have ih:=valV_snoc k j y r hn
  by_cases e:p.1=j
  ·rw [valV_pos e,valV_pos e,if_neg (fun z=>hk (e.trans z))]
  ·rw [valV_neg e,valV_neg e,ih]
theorem valV_put (kvs:List (κ×V)) (k j:κ) (y:V):valV (putK kvs k y) j=if j=k then some y else valV kvs j:=by
 unfold putK
 by_cases a:(kvs.any fun kv=>decide (kv.1=k))=true
 ·rw [if_pos a,valV_map]
  rw [valV_any] at a
  by_cases e:j=k
  ·obtain ⟨x,hx⟩:=Option.isSome_iff_exists.mp a
   rw [if_pos e,e,hx,Option.map_some,if_pos rfl]
  ·rw [if_neg e]
   cases valV kvs j with
   | none=>rfl
   | some x=>rw [Option.map_some,if_neg e]
 ·rw [if_neg a]
  refine valV_snoc k j y kvs ?_
  rw [valV_any] at a
  cases q:valV kvs k with
  | none=>rfl
  | some x=>rw [q] at a; exact (a rfl).elim
theorem length_putK (kvs:List (κ×V)) (k:κ) (v:V):(putK kvs k v).length<=kvs.length+1:=by
 unfold putK
 split
 ·rw [List.length_map]; omega
 ·rw [List.length_append,List.length_cons,List.length_nil]; omega
theorem RelO.isSome_eq {o:Option V} {u:Option Value} (r:RelO o u):o.isSome=u.isSome:=by
 cases o with
 | none=>cases u with
  | none=>rfl
  | some _=>exact (show False from r).elim
 | some _=>cases u with
  | none=>exact (show False from r).elim
  | some _=>rfl
theorem RelO.getD {o:Option V} {u:Option Value} {d:V} {d':Value} (r:RelO o u) (rd:RelV d d'):RelV (o.getD d) (u.getD d'):=by
 cases o with
 | none=>cases u with
  | none=>exact rd
  | some _=>exact (show False from r).elim
 | some _=>cases u with
  | none=>exact (show False from r).elim
  | some _=>exact r
theorem KV.val {kvs:List (κ×V)} {vs:List (κ×Value)} (r:KV kvs vs) (k:κ):RelO (valV kvs k) (valueAt vs k):=by
 unfold KV at r
 induction r with
 | nil=>exact True.intro
 | @cons p q ps qs h t ih =>
  obtain ⟨h1,h2⟩:=h
  by_cases e:p.1=k
  ·have e':q.1=k:=h1.symm.trans e
   have b:valueAt (q :: qs) k=some q.2:=by simp [valueAt,List.find?_cons,e']
   rw [valV_pos e,b]; exact h2
  ·have e':¬ q.1=k:=fun z=>e (h1.trans z)
   have b:valueAt (q :: qs) k=valueAt qs k:=by simp [valueAt,List.find?_cons,e']
   rw [valV_neg e,b]; exact ih
theorem KV.any {kvs:List (κ×V)} {vs:List (κ×Value)} (r:KV kvs vs) (k:κ):(kvs.any fun kv=>decide (kv.1=k))=vs.any fun kv=>decide (kv.1=k):=by
 unfold KV at r
 induction r with
 | nil=>rfl
 | cons h t ih=>rw [List.any_cons,List.any_cons,ih,h.1]
theorem KV.repl {kvs:List (κ×V)} {vs:List (κ×Value)} (r:KV kvs vs) (k:κ) {y:V} {u:Value} (ry:RelV y u) :
  KV (kvs.map fun kv=>if kv.1=k then (kv.1,y) else kv) (vs.map fun kv=>if kv.1=k then (kv.1,u) else kv):=by
 unfold KV at r ⊢
 induction r with
 | nil=>exact .nil
 | @cons p q ps qs h t ih =>
  rw [List.map_cons,List.map_cons]
  refine .cons ?_ ih
  obtain ⟨h1,h2⟩:=h
  by_cases e:p.1=k
  ·rw [if_pos e,if_pos (h1.symm.trans e)]; exact ⟨h1,ry⟩
  ·rw [if_neg e,if_neg (fun z=>e (h1.trans z))]; exact ⟨h1,h2⟩
theorem KV.put {kvs:List (κ×V)} {vs:List (κ×Value)} (r:KV kvs vs) (k:κ) {y:V} {u:Value} (ry:RelV y u):KV (putK kvs k y) (stored vs k u):=by
 unfold putK stored
 rw [r.any k]
 by_cases e:(vs.any fun kv=>decide (kv.1=k))=true
 ·rw [if_pos e,if_pos e]; exact r.repl k ry
 ·rw [if_neg e,if_neg e]; exact Paired.snoc r ⟨rfl,ry⟩
theorem KV.drop {kvs:List (κ×V)} {vs:List (κ×Value)} (r:KV kvs vs) (k:κ):KV (dropK kvs k) (without vs k):=by
 unfold KV at r ⊢
 unfold dropK without
 induction r with
 | nil=>exact .nil
 | @cons p q ps qs h t ih =>
  obtain ⟨h1,h2⟩:=h
  rw [List.filter_cons,List.filter_cons]
  by_cases e:p.1=k
  ·have a:¬ decide (p.1≠k)=true:=by simp [e]
   have b:¬ decide (q.1≠k)=true:=by simp [h1.symm.trans e]
   rw [if_neg a,if_neg b]; exact ih
  ·have e':¬ q.1=k:=fun z=>e (h1.trans z)
   have a:decide (p.1≠k)=true:=by simp [e]
   have b:decide (q.1≠k)=true:=by simp [e']
   rw [if_pos a,if_pos b]; exact .cons ⟨h1,h2⟩ ih
theorem KV.length {kvs:List (κ×V)} {vs:List (κ×Value)} (r:KV kvs vs):kvs.length=vs.length:=Paired.length r
theorem dropK_le (kvs:List (κ×V)) (k:κ):(dropK kvs k).length<=kvs.length:=List.length_filter_le _ _
end
theorem kV_is {P:Program} {w:World} {k:Key} {u:Value} (r:RelV (kV k) u):(mixKind P w).is k u=true:=by
 cases k with
 | inl i=>obtain ⟨t,e⟩:=(show ∃ t,u=Value.int i t from r); subst e; exact mixKind_int P w i t
 | inr x=>obtain ⟨t,e⟩:=(show ∃ t,u=Value.str x t from r); subst e; exact mixKind_str P w x t
theorem items_are {P:Program} {w:World}:∀ {ks:List Key} {us:List Value},Vals (ks.map kV) us->ItemsAre (mixKind P w) ks us
 | [],_,r=>by rw [List.map_nil] at r; cases r; exact .nil
 | k :: ks,_,r=>by
  rw [List.map_cons] at r
  cases r with
  | cons h t=>exact .cons (kV_is h) (items_are t)
abbrev KT (H:Hp):List (List Key×V)->List (List Key×Addr×Value)->Prop:=Paired fun p q=>p.1=q.1/\H q.2.1=some (.tup (p.1.map kV))/\RelV p.2 q.2.2
theorem KT.val {H:Hp} {kvs:List (List Key×V)} {xs:List (List Key×Addr×Value)} (r:KT H kvs xs) (k:List Key):RelO (valV kvs k) ((atKey xs k).map (·.2)):=by
 induction r with
 | nil=>exact True.intro
 | @cons p q ps qs h t ih =>
  obtain ⟨h1,_,h2⟩:=h
  by_cases e:p.1=k
  ·have e':q.1=k:=h1.symm.trans e
   have b:atKey (q :: qs) k=some q.2:=by simp [atKey,List.find?_cons,e']
   rw [valV_pos e,b]; exact h2
  ·have e':¬ q.1=k:=fun z=>e (h1.trans z)
   have b:atKey (q :: qs) k=atKey qs k:=by simp [atKey,List.find?_cons,e']
   rw [valV_neg e,b]; exact ih
theorem KT.repl {H:Hp} {kvs:List (List Key×V)} {xs:List (List Key×Addr×Value)} (r:KT H kvs xs) (k:List Key) {y:V} {u:Value} (ry:RelV y u) :
  KT H (kvs.map fun kv=>if kv.1=k then (kv.1,y) else kv) (xs.map (putAt k u)):=by
 induction r with
 | nil=>exact .nil
 | @cons p q ps qs h t ih =>
  rw [List.map_cons,List.map_cons]
  refine .cons ?_ ih
  obtain ⟨h1,h2,h3⟩:=h
  unfold putAt
  by_cases e:p.1=k
  ·rw [if_pos e,if_pos (h1.symm.trans e)]; exact ⟨h1,h2,ry⟩
  ·rw [if_neg e,if_neg (fun z=>e (h1.trans z))]; exact ⟨h1,h2,h3⟩
theorem KT.put {H:Hp} {kvs:List (List Key×V)} {xs:List (List Key×Addr×Value)} (r:KT H kvs xs) (k:List Key) {b:Addr} {y:V} {u:Value} (hb:H b=some (.tup (k.map kV))) (ry:RelV y u) :
  KT H (putK kvs k y) (storedH xs k b u):=by
 have e:(kvs.any fun kv=>decide (kv.1=k))=(atKey xs k).isSome:=by
  rw [valV_any,(r.val k).isSome_eq,Option.isSome_map]
 unfold putK storedH
 rw [e]
 by_cases q:(atKey xs k).isSome=true
 ·rw [if_pos q,if_pos q]; exact r.repl k ry
 ·rw [if_neg q,if_neg q]; exact Paired.snoc r ⟨rfl,hb,ry⟩
theorem KT.keeps {H H':Hp} {kvs:List (List Key×V)} {xs:List (List Key×Addr×Value)} (r:KT H kvs xs) (ht:∀ b ys,H b=some (.tup ys)->H' b=some (.tup ys)):KT H' kvs xs :=
 Paired.mapP r fun _ _ z=>⟨z.1,ht _ _ z.2.1,z.2.2⟩
section
variable {P:Program} {w:World} {H:Hp} {h:Heap} {a:Addr}
theorem rd_of {u:HO} (ok:HOk P w H h) (e:Rd H a u):ObjOk P w H h a u:=e.ok ok
theorem dk_rd {kvs:List (Key×V)} (ok:HOk P w H h) (e:Rd H a (.dK kvs)):kvs.length<=sizeLine/\(a == sysModules)=false/\∃ vs,KV kvs vs/\h.DictOf (mixKind P w) a vs :=
 show ObjOk P w H h a (.dK kvs) from rd_of ok e
theorem dk_of {kvs:List (Key×V)} (ok:HOk P w H h) (e:H a=some (.dK kvs)):kvs.length<=sizeLine/\(a == sysModules)=false/\∃ vs,KV kvs vs/\h.DictOf (mixKind P w) a vs:=dk_rd ok (.inl e)
theorem key_of {ks:List Key} (ok:HOk P w H h) (e:H a=some (.tup (ks.map kV))):(tupleKind (mixKind P w)).is h ks a:=by
 obtain ⟨_,its,r,o,h1,h2,n,h3⟩:=(show ObjOk P w H h a (.tup (ks.map kV)) from ok a _ e)
 exact ⟨o,its.toArray,n,h1,h2,h3,by simpa using items_are r⟩
theorem dt_rd {kvs:List (List Key×V)} (ok:HOk P w H h) (e:Rd H a (.dT kvs)):kvs.length<=sizeLine/\(a == sysModules)=false /\
  ∃ xs,KT H kvs xs/\h.DictOfH (tupleKind (mixKind P w)) a xs:=by
 obtain ⟨z,y,xs,r,o,es,ep,h1,h2,h3,h4,h5⟩:=(show ObjOk P w H h a (.dT kvs) from rd_of ok e)
 refine ⟨z,y,xs,r,o,es,ep,h1,h2,h3,h4,fun x hx=>?_,h5⟩
 have all:∀ {l:List (List Key×V)} {m:List (List Key×Addr×Value)},KT H l m->∀ x ∈ m,(tupleKind (mixKind P w)).is h x.1 x.2.1:=by
  intro l m q
  induction q with
  | nil=>intro x hx; exact nomatch hx
  | @cons p q ps qs hq t ih =>
   intro x hx
   rcases List.mem_cons.mp hx with e | hx
   ·subst e
    exact key_of ok (by rw [<- hq.1]; exact hq.2.1)
   ·exact ih x hx
 exact all r x hx
theorem dt_of {kvs:List (List Key×V)} (ok:HOk P w H h) (e:H a=some (.dT kvs)):kvs.length<=sizeLine/\(a == sysModules)=false /\
  ∃ xs,KT H kvs xs/\h.DictOfH (tupleKind (mixKind P w)) a xs:=dt_rd ok (.inl e)
end
def DGet (H:Hp) (a:Addr) (y:V) (r:Option V):Prop :=
 (∃ kvs k,Rd H a (.dK kvs)/\y=kV k/\r=valV kvs k)\/∃ kvs k b,Rd H a (.dT kvs)/\y=.ref b/\H b=some (.tup (k.map kV))/\r=valV kvs k
def DPut (H:Hp) (a:Addr) (y v:V) (H':Hp):Prop :=
 (∃ kvs k,H a=some (.dK kvs)/\y=kV k/\kvs.length < sizeLine/\H'=upd H a (.dK (putK kvs k v))) \/
 ∃ kvs k b,H a=some (.dT kvs)/\y=.ref b/\H b=some (.tup (k.map kV))/\kvs.length < sizeLine/\H'=upd H a (.dT (putK kvs k v))
theorem DGet.k {H:Hp} {a:Addr} {kvs:List (Key×V)} {k:Key} (e:H a=some (.dK kvs)):DGet H a (kV k) (valV kvs k):=.inl ⟨kvs,k,.inl e,rfl,rfl⟩
theorem DPut.k {H:Hp} {a:Addr} {kvs:List (Key×V)} {k:Key} {v:V} (e:H a=some (.dK kvs)) (hl:kvs.length < sizeLine):DPut H a (kV k) v (upd H a (.dK (putK kvs k v))):=.inl ⟨kvs,k,e,rfl,hl,rfl⟩
section
variable {X:Cx} {pins:List (Addr×Obj)} {σ:St} {H:Hp} {s:Shared} {a:Addr} {y v:V} {u r:Value} {o:Option V} {A:Around} {E:Value->Shared->Prop}
theorem Inv.big (I:Inv X pins σ H s):sysModules < s.heap.objs.size:=by
 have h:mainGlobals < s.heap.objs.size:=(I.mod.glob.keeps I.bk).lt
 exact Nat.lt_trans (by decide) h
theorem d_in {Q:Value->Shared->Prop} (hu:A.units+1 < cLine) (I:Inv X pins σ H s) (g:DGet H a y o) (ry:RelV y u) (h:∀ s',Inv X pins σ H s'->Q (.bool o.isSome) s') :
  wpAny (model X.prog X.w) A (compareOp .In u (.ref a)) Q E s:=by
 rcases g with ⟨kvs,k,e,ey,l⟩ | ⟨kvs,k,b,e,ey,eb,l⟩
 ·subst ey
  obtain ⟨z,hd,vs,rel,dd⟩:=dk_rd I.hok e
  refine wpAny_in_of (kV_is ry) hd dd.mapOf ?_
  rw [<- (rel.val k).isSome_eq,<- l]
  exact h _ (I.tok _)
 ·subst ey
  cases (show u=Value.ref b from ry)
  obtain ⟨z,hd,xs,rel,dd⟩:=dt_rd I.hok e
  refine wpAny_in_heap (tupleKind_room_in1 hu) (key_of I.hok eb) hd dd ?_
  have q:=(rel.val k).isSome_eq
  rw [Option.isSome_map] at q
  rw [<- q,<- l]
  exact h _ (I.tok _)
theorem d_write {h':Heap} {t':Nat} {ob:HO} (I:Inv X pins σ H s) (mu:Mut (H a)) (hs:Heap.SameBut a s.heap h') (he:∃ q,h'.get? a=some q) (new:ObjOk X.prog X.w (upd H a ob) h' a ob) :
  Inv X pins σ (upd H a ob) { s with heap:=h',toks:=t' } :=
 I.write (x:=a) (e:=a) mu (.inl rfl) (fun b q hb z=>(hs.2 b hb).trans z) he new
theorem dk_new {P:Program} {w:World} {H':Hp} {h':Heap} {kvs:List (Key×V)} {vs:List (Key×Value)} (z:kvs.length<=sizeLine) (hd:(a == sysModules)=false) (rel:KV kvs vs) (dd:h'.DictOf (mixKind P w) a vs) :
  ObjOk P w H' h' a (.dK kvs):=⟨z,hd,vs,rel,dd⟩
theorem d_setItem {H':Hp} {Q:Unit->Shared->Prop} (hu:A.units+1 < cLine) (I:Inv X pins σ H s) (g:DPut H a y v H') (ry:RelV y u) (rv:RelV v r) (h:∀ s',Inv X pins σ H' s'->Q () s') :
  wpAny (model X.prog X.w) A (setItem (.ref a) u r) Q E s:=by
 rcases g with ⟨kvs,k,e,ey,l,eH⟩ | ⟨kvs,k,b,e,ey,eb,l,eH⟩
 ·subst ey eH
  obtain ⟨z,hd,vs,rel,dd⟩:=dk_of I.hok e
  have hz:vs.length<=sizeLine:=by rw [<- rel.length]; exact z
  have hl:(putK kvs k v).length<=sizeLine:=by have:=length_putK kvs k v; omega
  refine wpAny_setItem_pairs (hsz:=hz) (kV_is ry) dd fun h' dd' hs=>h _ ?_
  have he:∃ q,h'.get? a=some q:=let ⟨q,_,_,hq,_⟩:=dd'; ⟨q,hq⟩
  exact d_write I (by rw [e]; exact True.intro) hs he (dk_new hl hd (rel.put k rv) dd')
 ·subst ey eH
  cases (show u=Value.ref b from ry)
  obtain ⟨z,hd,xs,rel,dd⟩:=dt_of I.hok e
  have hz:xs.length<=sizeLine:=by rw [<- Paired.length rel]; exact z
  have hl:(putK kvs k v).length<=sizeLine:=by have:=length_putK kvs k v; omega
  refine wpAny_setItem_heap (hsz:=hz) (tupleKind_room_in1 hu) (key_of I.hok eb) dd fun h' dd' hs=>h _ ?_
  obtain ⟨q,es,ep,hq,h2,h3,h4,_,h5⟩:=dd'
  refine d_write I (by rw [e]; exact True.intro) hs ⟨q,hq⟩ ⟨hl,hd,_,(rel.put k eb rv).keeps fun c ys ec=>?_,q,es,ep,hq,h2,h3,h4,h5⟩
  rw [upd_ne (ne_of ec e (fun z=>nomatch z))]
  exact ec
end
section
variable {X:Cx} {pins:List (Addr×Obj)} {σ:St} {H:Hp} {s:Shared} {a:Addr} {kvs:List (Key×V)} {k:Key} {u:Value} {A:Around} {E:Value->Shared->Prop}
theorem d_delItem {Q:Unit->Shared->Prop} (I:Inv X pins σ H s) (e:H a=some (.dK kvs)) (ry:RelV (kV k) u) (l:(valV kvs k).isSome=true) (h:∀ s',Inv X pins σ (upd H a (.dK (dropK kvs k))) s'->Q () s') :
  wpAny (model X.prog X.w) A (delItem (.ref a) u) Q E s:=by
 obtain ⟨z,hd,vs,rel,dd⟩:=dk_of I.hok e
 refine wpAny_delItem_slot dd.typeIs (by decide) PySem.F.slot_dict_delitem
  (call_meetsIn PySem.F.slot_dict_delitem dd.typeIs PySem.F.entry_dict_delitem (PySem.F.args_dict_delitem_2 _ _) (meets_dict_delitem_pairs (mixKind X.prog X.w) a (kV_is ry)) ⟨vs,dd,by rw [<- rel.length]; exact z,by rw [<- (rel.val k).isSome_eq]; exact l,fun h' dd' hs=>h _ ?_⟩)
 have he:∃ q,h'.get? a=some q:=let ⟨q,_,_,hq,_⟩:=dd'; ⟨q,hq⟩
 exact d_write I (by rw [e]; exact True.intro) hs he (dk_new (Nat.le_trans (dropK_le kvs k) z) hd (rel.drop k) dd')
theorem d_pop {v:V} {more:List Value} {Q:Value->Shared->Prop} (I:Inv X pins σ H s) (e:H a=some (.dK kvs)) (ry:RelV (kV k) u) (l:valV kvs k=some v) (hm:more=[]\/∃ x,more=[x])
  (h:∀ w' s',Inv X pins σ (upd H a (.dK (dropK kvs k))) s'->RelV v w'->Q w' s'):wpAny (model X.prog X.w) A (call (.builtin "dict.pop") (.ref a :: u :: more)) Q E s:=by
 obtain ⟨z,hd,vs,rel,dd⟩:=dk_of I.hok e
 obtain ⟨w',hw,rw'⟩:=RelO.some_of (v:=v) (o:=valueAt vs k) (by rw [<- l]; exact rel.val k)
 have hp:(keyPart u).isSome=true:=by
  cases k with
  | inl i=>obtain ⟨t,q⟩:=(show ∃ t,u=Value.int i t from ry); subst q; rfl
  | inr x=>obtain ⟨t,q⟩:=(show ∃ t,u=Value.str x t from ry); subst q; rfl
 have ha:argsOk "dict.pop" ⟨.ref a :: u :: more,[]⟩:=by
  rcases hm with q | ⟨x,q⟩
  ·subst q; exact PySem.F.args_dict_pop_2 _ _
  ·subst q; exact PySem.F.args_dict_pop_3 _ _ _
 refine call_meetsIn PySem.F.slot_dict_pop dd.typeIs PySem.F.entry_dict_pop ha (meets_dict_pop_there (mixKind X.prog X.w) a (kV_is ry) more hm hp)
  ⟨vs,w',dd,by rw [<- rel.length]; exact z,hw,fun h' dd' hs=>h w' _ ?_ rw'⟩
 have he:∃ q,h'.get? a=some q:=let ⟨q,_,_,hq,_⟩:=dd'; ⟨q,hq⟩
 exact d_write I (by rw [e]; exact True.intro) hs he (dk_new (Nat.le_trans (dropK_le kvs k) z) hd (rel.drop k) dd')
end
def NoSl (i:Expr):Prop:=∀ ov iv,subscripted i false ov iv=operate [ov,iv] (getItem ov iv)
theorem subD_of {prog:Program} {w:World} {A:Around} {E:Value->Shared->Prop} {s:Shared} {env:Env} {value slice:Expr} {pos:Pos} {T id:String} {Q:Value->Shared->Prop}
  (hl:typeLookup (.type T) "__getitem__" = pure (some (.builtin id))) (hs:NoSl slice)
  (h:wpAny (model prog w) A (eval value env) (fun o s₁=>wpAny (model prog w) A (eval slice env) (fun i s₂=>s₂.TypeIs o T/\wpAny (model prog w) A (getItem o i) Q E s₂) E s₁) E s) :
  wpAny (model prog w) A (eval (.Subscript value slice pos) env) Q E s:=by
 refine Subscript_ (wpAny_mono h (fun o s₁ h₁=>wpAny_mono h₁ (fun i s₂ h₂=>?_) fun _ _ x=>x) fun _ _ x=>x)
 obtain ⟨hT,h₂⟩:=h₂
 unfold subscriptTail
 refine wpAny_bind ?_
 rw [getitemInPython_of_ne hT.not_modules]
 refine wpAny_bind (wpAny_specialOf hT hl ?_)
 have fin:wpAny (model prog w) A (subscripted slice false o i) (fun r s₃=>wpAny (model prog w) A (letTemporaryGo value o r >>= fun _=>pure r) Q E s₃) E s₂:=by
  rw [hs o i]
  exact wpAny_operating (wpAny_mono h₂ (fun r s₃ h₃=>wpAny_bind (wpAny_letTemporaryGo (wpAny_pure h₃))) fun _ _ x=>x)
 first
  | exact wpAny_pure (wpAny_bind fin)
  | exact wpAny_bind (wpAny_pure (wpAny_bind fin))
  | exact wpAny_bind fin
def tDIn (ty td:TE):TE:=fun σ H Q=>ty σ H fun y H1=>td σ H1 fun x H2=>∃ a o,x=.ref a/\DGet H2 a y o/\Q (.bl o.isSome) H2
def sDPut (td ty tv:TE):TS:=fun D σ H=>tv σ H fun v H1=>td σ H1 fun x H2=>ty σ H2 fun y H3=>∃ a H4,x=.ref a/\DPut H3 a y v H4/\D.nx σ H4
section
variable {X:Cx} {o i e value:Expr} {pos pos' tpos:Pos} {td ty tv:TE}
theorem pc_din (hu:X.A.units+1 < cLine) (hi:PE X i ty) (ho:PE X o td):PC X .In i o (tDIn ty td):=by
 intro pins s σ H Q I h
 refine thn (hi pins s σ H _ I h) fun iv s1 ⟨y,H1,I1,ry,q1⟩=>thn (ho pins s1 σ H1 _ I1 q1) fun u s2 ⟨x,H2,I2,rx,a,ov,ex,g,q2⟩=>?_
 subst ex
 obtain rfl:u=Value.ref a:=rx
 exact d_in hu I2 g ry fun s3 I3=>⟨.bl ov.isSome,H2,I3,rfl,q2⟩
theorem ps_dput (hu:X.A.units+1 < cLine) (ho:PE X o td) (hi:PE X i ty) (hv:PE X value tv) (hs:swapsWith value (some (.Subscript o i pos')) pos.line X.env=pure false) :
  PS X (.Assign [.Subscript o i pos'] value pos) (sDPut td ty tv):=by
 intro pins s σ H D I h
 refine wpAny_Assign_Subscript (thn (hv pins s σ H _ I h) fun r s1 ⟨v,H1,I1,rv,q1⟩=>thn (ho pins s1 σ H1 _ I1 q1) fun u s2 ⟨x,H2,I2,rx,q2⟩=>thn (hi pins s2 σ H2 _ I2 q2) fun iv s3 ⟨y,H3,I3,ry,a,H4,ex,g,q3⟩=>?_) hs
 subst ex
 obtain rfl:u=Value.ref a:=rx
 exact d_setItem hu I3 g ry rv fun s4 I4=>⟨σ,H4,I4,q3⟩
end
theorem dk_empty {P:Program} {w:World} {H:Hp} (h:Heap) (hb:sysModules < h.objs.size):ObjOk P w H (h.push { cls:=.type "dict",data:=.dict #[] }) h.objs.size (.dK []) :=
 ⟨Nat.zero_le _,beq_eq_false_iff_ne.mpr (Ne.symm (Nat.ne_of_lt hb)),[],.nil,Heap.DictOf.new h⟩
def tDNewK:TE:=fun _ H Q=>∀ p,H p=none->Q (.ref p) (upd H p (.dK []))
section
variable {X:Cx} {pos:Pos}
theorem pe_dnewK:PE X (.Dict [] [] pos) tDNewK:=fun pins s σ H Q I h =>
 wpAny_Dict_empty ⟨.ref s.heap.objs.size,_,I.laid (a:=s.heap.objs.size) (o:=.dK []) (t':=s.toks) (fun _ _ q=>Heap.get?_push_of_some _ q) (Nat.le_refl _) (dk_empty s.heap I.big),rfl,h _ (I.hok.fresh (Nat.le_refl _))⟩
end
structure M1 (X:Cx) (o:Expr) (m:Str) (apos:Pos) (e:Expr) (cpos:Pos):Prop where
 base:attributeBase o m X.env (eval o X.env)=eval o X.env
 few:((backTo cpos (starEach [e] X.env)).all (fun x=>!x.1) && (backToKw cpos (keywordEach [] X.env)).all (fun x=>x.1.isSome)
  && decide (([e]:List Expr).length+([]:List Keyword).length+(if ([]:List Keyword).isEmpty then 0 else 1) < 30))=true
 line:(apos.endLine == cpos.line)=true
 trees:backTo cpos (starEach [e] X.env)=[(false,eval e X.env)]
structure M2 (X:Cx) (o:Expr) (m:Str) (apos:Pos) (e f:Expr) (cpos:Pos):Prop where
 base:attributeBase o m X.env (eval o X.env)=eval o X.env
 few:((backTo cpos (starEach [e,f] X.env)).all (fun x=>!x.1) && (backToKw cpos (keywordEach [] X.env)).all (fun x=>x.1.isSome)
  && decide (([e,f]:List Expr).length+([]:List Keyword).length+(if ([]:List Keyword).isEmpty then 0 else 1) < 30))=true
 line:(apos.endLine == cpos.line)=true
 trees:backTo cpos (starEach [e,f] X.env)=[(false,eval e X.env),(false,eval f X.env)]
def IsD (H:Hp) (a:Addr):Prop:=(∃ kvs,Rd H a (.dK kvs))\/∃ kvs,Rd H a (.dT kvs)
theorem isD_at {X:Cx} {pins:List (Addr×Obj)} {σ:St} {H:Hp} {s:Shared} {a:Addr} (I:Inv X pins σ H s) (d:IsD H a) :
  s.TypeIs (.ref a) "dict" /\ (∀ b,Value.ref a=.ref b->∃ ob,s.heap.get? b=some ob/\ob.dict=none)/\(a == sysModules)=false:=by
 rcases d with ⟨kvs,e⟩ | ⟨kvs,e⟩
 ·obtain ⟨_,hd,vs,_,dd⟩:=dk_rd I.hok e
  refine ⟨dd.typeIs,fun b q=>?_,hd⟩
  cases q
  obtain ⟨ob,_,_,h1,h2,_⟩:=dd
  exact ⟨ob,h1,h2.2.1⟩
 ·obtain ⟨_,hd,xs,_,dd⟩:=dt_rd I.hok e
  refine ⟨dd.typeIs,fun b q=>?_,hd⟩
  cases q
  obtain ⟨ob,_,_,h1,h2,_⟩:=dd
  exact ⟨ob,h1,h2.2.1⟩
section
variable {X:Cx} {pins:List (Addr×Obj)} {σ:St} {H:Hp} {s:Shared} {a:Addr} {y d:V} {u r:Value} {o:Option V} {A:Around} {E:Value->Shared->Prop}
theorem d_get1 {Q:Value->Shared->Prop} (hu:A.units+1 < cLine) (I:Inv X pins σ H s) (g:DGet H a y o) (ry:RelV y u) (h:∀ w' s',Inv X pins σ H s'->RelV (o.getD .non) w'->Q w' s') :
  wpAny (model X.prog X.w) A (call (.builtin "dict.get") [.ref a,u]) Q E s:=by
 rcases g with ⟨kvs,k,e,ey,l⟩ | ⟨kvs,k,b,e,ey,eb,l⟩
 ·subst ey
  obtain ⟨z,hd,vs,rel,dd⟩:=dk_rd I.hok e
  refine call_meetsIn PySem.F.slot_dict_get dd.typeIs PySem.F.entry_dict_get (PySem.F.args_dict_get_2 _ _) (meets_dict_get (mixKind X.prog X.w) a (kV_is ry) hd) ⟨_,dd.mapOf,h _ _ (I.tok _) ?_⟩
  rw [l]
  exact (rel.val k).getD rfl
 ·subst ey
  cases (show u=Value.ref b from ry)
  obtain ⟨z,hd,xs,rel,dd⟩:=dt_rd I.hok e
  refine call_meetsIn PySem.F.slot_dict_get dd.typeIs PySem.F.entry_dict_get (PySem.F.args_dict_get_2 _ _) (meetsH_dict_get (tupleKind (mixKind X.prog X.w)) a b hd) ⟨tupleKind_room_in1 hu,k,xs,key_of I.hok eb,dd,h _ _ (I.tok _) ?_⟩
  rw [l]
  exact (rel.val k).getD rfl
end
def tDGet1 (td ty:TE):TE:=fun σ H Q=>td σ H fun x H1=>∃ a,x=.ref a/\IsD H1 a/\ty σ H1 fun y H2=>∃ o,DGet H2 a y o/\Q (o.getD .non) H2
def tDPop1 (td ty:TE):TE:=fun σ H Q=>td σ H fun x H1=>∃ a,x=.ref a/\IsD H1 a/\ty σ H1 fun y H2=>∃ kvs k v,H2 a=some (.dK kvs)/\y=kV k/\valV kvs k=some v/\Q v (upd H2 a (.dK (dropK kvs k)))
section
variable {X:Cx} {o e f:Expr} {apos cpos:Pos} {td ty tx:TE}
theorem pe_dget1 (hu:X.A.units+1 < cLine) (ho:PE X o td) (he:PE X e ty) (m:M1 X o "get" apos e cpos):PE X (.Call (.Attribute o "get" apos) [e] [] cpos) (tDGet1 td ty):=by
 intro pins s σ H Q I h
 refine wpAny_Call_method m.base m.few m.line PySem.F.plainAttrs_dict PySem.F.slot_dict_get PySem.F.type_dict_get (thn (ho pins s σ H _ I h) fun u s1 ⟨x,H1,I1,rx,a,ex,d,q1⟩=>?_)
 subst ex
 obtain rfl:u=Value.ref a:=rx
 obtain ⟨t1,t2,_⟩:=isD_at I1 d
 refine ⟨t1,t2,?_⟩
 rw [m.trees]
 refine Calls.callWith_builtin rfl (Calls.evalArgs_plain (Calls.spliced_cons (thn (he pins s1 σ H1 _ I1 q1) fun iv s2 ⟨y,H2,I2,ry,ov,g,q2⟩=>Calls.spliced_nil ?_)))
 exact d_get1 hu I2 g ry fun w' s3 I3 rw'=>⟨_,H2,I3,rw',q2⟩
theorem pe_dpop1 (ho:PE X o td) (he:PE X e ty) (m:M1 X o "pop" apos e cpos):PE X (.Call (.Attribute o "pop" apos) [e] [] cpos) (tDPop1 td ty):=by
 intro pins s σ H Q I h
 refine wpAny_Call_method m.base m.few m.line PySem.F.plainAttrs_dict PySem.F.slot_dict_pop PySem.F.type_dict_pop (thn (ho pins s σ H _ I h) fun u s1 ⟨x,H1,I1,rx,a,ex,d,q1⟩=>?_)
 subst ex
 obtain rfl:u=Value.ref a:=rx
 obtain ⟨t1,t2,_⟩:=isD_at I1 d
 refine ⟨t1,t2,?_⟩
 rw [m.trees]
 refine Calls.callWith_builtin rfl (Calls.evalArgs_plain (Calls.spliced_cons (thn (he pins s1 σ H1 _ I1 q1) fun iv s2 ⟨y,H2,I2,ry,kvs,k,v,ea,ey,l,q2⟩=>Calls.spliced_nil ?_)))
 subst ey
 exact d_pop I2 ea ry l (.inl rfl) fun w' s3 I3 rw'=>⟨v,_,I3,rw',q2⟩
end
section
variable {X:Cx} {pins:List (Addr×Obj)} {σ:St} {H:Hp} {s:Shared} {a:Addr} {kvs:List (Key×V)} {A:Around} {E:Value->Shared->Prop}
end
section
variable {X:Cx} {pins:List (Addr×Obj)} {σ:St} {H:Hp} {s:Shared} {a:Addr} {y:V} {u:Value} {A:Around} {E:Value->Shared->Prop}
end
end L2
namespace L2
open PySem PySem.Spec PyProof.Rows
section
variable {prog:Program} {w:World} {A:Around} {E:Value->Shared->Prop}
end
section
variable {X:Cx}
end
end L2
namespace L2
open PySem PySem.Spec PyProof.Rows
theorem boot_reversed5:bootBuiltins "reversed" = some (.type "reversed"):=by decide +kernel
section
variable {X:Cx} {pins:List (Addr×Obj)} {σ:St} {H:Hp} {s:Shared} {h':Heap}
theorem Inv.turnedL {t':Nat} {ch:List Addr} (I:Inv X pins σ H s) (k:∀ b o,b ∉ ch->s.heap.get? b=some o->h'.get? b=some o) (hf:∀ b ∈ ch,FpOk X pins H b):Inv X pins σ H { s with heap:=h',toks:=t' }:=by
 have nit:∀ b u,H b=some u->b ∉ ch:=fun b u e z=>by
  have q:=(hf b z).1
  rw [q] at e; cases e
 refine I.step (g':=s.gens) (d':=s.drawn) (ch:=ch) (fun b hb=>⟨(hf b hb).2.2.2.1,(hf b hb).2.1,(hf b hb).2.2.2.2.1,(hf b hb).2.2.2.2.2⟩) (fun b o _ _ hc e _=>k b o hc e) (fun b o _ _ hc e _=>⟨o.slots,k b o hc e⟩)
  (fun _ _ _ _ n=>n) (fun b o hc e=>⟨o,k b o hc e⟩) (fun _ _ e=>e) (fun _ _ _ e=>e) (fun b ps e=>⟨#[],by rw [e]; simp⟩) (fun m hm=>?_) (fun b u e=>?_) I.bare
 ·obtain ⟨o,es,ep,ho,r⟩:=hm
  exact ⟨o,es,ep,k _ o (fun z=>(hf _ z).2.1 rfl) ho,r⟩
 ·refine (I.hok b u e).stay (fun c v hc q=>k c v ?_ q) (fun _ q=>q) fun _ _ q=>q
  rcases hc with z | z
  ·rw [z]; exact nit b u e
  ·exact nit c _ z
theorem Inv.turnedNew {t':Nat} {ch:List Addr} {T:Addr} {ob:HO} (I:Inv X pins σ H s) (k:∀ b o,b ∉ ch->s.heap.get? b=some o->h'.get? b=some o) (hf:∀ b ∈ ch,FpOk X pins H b) (hT:s.heap.objs.size<=T)
  (new:ObjOk X.prog X.w (upd H T ob) h' T ob):Inv X pins σ (upd H T ob) { s with heap:=h',toks:=t' }:=by
 have hn:H T=none:=I.hok.fresh hT
 have nit:∀ b u,H b=some u->b ∉ ch:=fun b u e z=>by
  have q:=(hf b z).1
  rw [q] at e; cases e
 refine I.step (g':=s.gens) (d':=s.drawn) (ch:=ch) (fun b hb=>⟨(hf b hb).2.2.2.1,(hf b hb).2.1,(hf b hb).2.2.2.2.1,(hf b hb).2.2.2.2.2⟩) (fun b o _ _ hc e _=>k b o hc e) (fun b o _ _ hc e _=>⟨o.slots,k b o hc e⟩)
  (fun b o _ e n=>?_) (fun b o hc e=>⟨o,k b o hc e⟩) (fun b xs e=>?_) (fun b o u e=>?_) (fun b ps e=>⟨#[],?_⟩) (fun m hm=>?_) (fun b u e=>?_) I.bare
 ·rw [upd_ne (Nat.ne_of_lt (Nat.lt_of_lt_of_le (Heap.lt_size e) hT))]; exact n
 ·rw [upd_ne (ne_of_none e hn)]; exact e
 ·rw [upd_ne (ne_of_none e hn)]; exact e
 ·rw [upd_ne (ne_of_none e hn),e]; simp
 ·obtain ⟨o,es,ep,ho,r⟩:=hm
  exact ⟨o,es,ep,k _ o (fun z=>(hf _ z).2.1 rfl) ho,r⟩
 ·by_cases hb:b=T
  ·subst hb
   rw [upd_same] at e
   cases e
   exact new
  ·rw [upd_ne hb] at e
   refine (I.hok b u e).stay (fun c v hc q=>k c v ?_ q) (fun c q=>by rw [upd_ne (ne_of_none q hn)]; exact q) fun c xs q=>by rw [upd_ne (ne_of_none q hn)]; exact q
   rcases hc with z | z
   ·rw [z]; exact nit b u e
   ·exact nit c _ z
end
section
variable {X:Cx}
end
section
variable {X:Cx} {tg:Expr}
end
section
variable {X:Cx} {tg:Expr}
end
section
variable {prog:Program} {w:World} {A:Around} {E:Value->Shared->Prop} {s:Shared}
end
theorem paired_get {α β:Type} {G:α->β->Prop} {l₁:List α} {l₂:List β} (h:Paired G l₁ l₂):∀ {i:Nat} {a:α},l₁[i]?=some a->∃ b,l₂[i]?=some b/\G a b:=by
 induction h with
 | nil=>intro i a e; simp at e
 | @cons a b l₁ l₂ r t ih =>
  intro i a' e
  cases i with
  | zero =>
   simp only [List.getElem?_cons_zero,Option.some.injEq] at e
   subst e
   exact ⟨b,rfl,r⟩
  | succ j =>
   simp only [List.getElem?_cons_succ] at e ⊢
   exact ih e
section
variable {X:Cx} {pins:List (Addr×Obj)} {σ:St} {H:Hp} {s:Shared} {d:Addr} {o:Obj}
end
section
variable {P:Program} {w:World} {K:PySem.W.Frag} {tg:Expr} {d:Addr} {o:Obj} {es:Array DictEntry} {ep:Nat}
end
section
variable {X:Cx} {tg e:Expr} {td:TE} {apos cpos:Pos}
end
theorem boot_zip5:bootBuiltins "zip" = some (.type "zip"):=by decide +kernel
def Itz (K:PySem.W.Frag) (a b:Addr):It :=
 ⟨fun i H=>∃ (xs ys:List V) (x y:V),SqL K H a xs/\SqL K H b ys/\xs[i]?=some x/\ys[i]?=some y,
  fun i H v H'=>∃ T x y,v=.ref T/\H T=none/\H'=upd H T (.tup [x,y])/\(∀ xs,SqL K H a xs->xs[i]?=some x)/\∀ ys,SqL K H b ys->ys[i]?=some y,
  fun i H=>∃ xs ys:List V,SqL K H a xs/\SqL K H b ys/\(xs.length<=i\/ys.length<=i)⟩
theorem turn_zip {P:Program} {w:World} {K:PySem.W.Frag} {elts:List Expr} {kk:Nat} {tpos:Pos} {a b z TI TO i1 i2:Addr} (D:ZipApart z TI TO i1 i2 a b) :
  Turn P w K (.Tuple elts kk tpos) (Itz K a b) [z,TI,TO,i1,i2] z (fun i h=>IsZip h z TI TO .none/\IsPair h TI (.ref i1) (.ref i2)/\(∃ x y,IsPair h TO x y)/\h.IsListIter i1 a i/\h.IsListIter i2 b i) where
 mem:=by simp
 obj:=fun i h st c hc=>by
  obtain ⟨hz,hTI,⟨x,y,hTO⟩,⟨o1,e1,_,d1⟩,⟨o2,e2,_,d2⟩⟩:=st
  have e':c=z\/c=TI\/c=TO\/c=i1\/c=i2:=by simpa using hc
  rcases e' with q | q | q | q | q
  ·rw [q]; exact ⟨_,hz,fun v q=>nomatch q⟩
  ·rw [q]; exact ⟨_,hTI,fun v q=>nomatch q⟩
  ·rw [q]; exact ⟨_,hTO,fun v q=>nomatch q⟩
  ·rw [q]; exact ⟨o1,e1,fun v q=>by rw [d1] at q; cases q⟩
  ·rw [q]; exact ⟨o2,e2,fun v q=>by rw [d2] at q; cases q⟩
 keep:=fun i h h' st k=>by
  obtain ⟨hz,hTI,⟨x,y,hTO⟩,h1,h2⟩:=st
  exact ⟨k z (by simp) _ hz,k TI (by simp) _ hTI,⟨x,y,k TO (by simp) _ hTO⟩,h1.at fun o q=>k i1 (by simp) o q,h2.at fun o q=>k i2 (by simp) o q⟩
 item:=by
  intro X hP hw hK hc i pins s σ H E I hf st hg
  subst hP hw hK
  obtain ⟨hz,hTI,⟨x0,y0,hTO⟩,h1,h2⟩:=st
  obtain ⟨xs,ys,x,y,hqx,hqy,hx,hy⟩:=hg
  obtain ⟨its,rv,p,_⟩:=I.list hqx
  obtain ⟨its2,rv2,p2,_⟩:=I.list hqy
  obtain ⟨u,hu,ru⟩:=rv.get hx
  obtain ⟨u2,hu2,ru2⟩:=rv2.get hy
  have hzl:z < s.heap.objs.size:=Heap.lt_size hz
  refine wpAny_pyNext_zip_item D hz hTI hTO h1 h2 p.isList p2.isList (x:=u) (y:=u2) (by simpa using hu) (by simpa using hu2) fun h' z' TO' h1' h2' hT hsz hk=>?_
  refine ⟨_,rfl,wpAny_letOwnedTupleGo_zip (s:={ s with heap:=h' }) z' fun h'' z'' sb=>?_⟩
  have hT2:h''.get? s.heap.objs.size=some { cls:=.type "tuple",data:=.seq #[u,u2] }:=(sb.2 _ (Nat.ne_of_gt hzl)).trans hT
  have new:ObjOk X.prog X.w (upd H s.heap.objs.size (.tup [x,y])) h'' s.heap.objs.size (.tup [x,y]) :=
   ⟨by show 2<=sizeLine; decide,[u,u2],.cons ru (.cons ru2 .nil),⟨_,hT2,rfl,_,rfl⟩⟩
  have I1:Inv X pins σ (upd H s.heap.objs.size (.tup [x,y])) { s with heap:=h'' } :=
   I.turnedNew (t':=s.toks) (ch:=[z,TI,TO,i1,i2]) (fun c o hb q=>(sb.2 c (fun q'=>hb (by simp [q']))).trans (hk c o (fun q'=>hb (by simp [q'])) (fun q'=>hb (by simp [q'])) (fun q'=>hb (by simp [q'])) (fun q'=>hb (by simp [q'])) q)) hf (Nat.le_refl _) new
  refine ⟨.ref s.heap.objs.size,_,I1,rfl,⟨_,x,y,rfl,I.hok.fresh (Nat.le_refl _),rfl,fun l hl=>by rw [I.list_inj hl hqx]; exact hx,fun l hl=>by rw [I.list_inj hl hqy]; exact hy⟩,⟨z'',?_,⟨u,u2,?_⟩,?_,?_⟩,fun c hcm=>?_⟩
  ·exact (sb.2 _ D.TIz).trans (hk _ _ D.TIz D.TITO D.TIi1 D.TIi2 hTI)
  ·exact (sb.2 _ D.TOz).trans TO'
  ·exact h1'.at fun o q=>(sb.2 _ D.i1z).trans q
  ·exact h2'.at fun o q=>(sb.2 _ D.i2z).trans q
  ·have hlt:c < s.heap.objs.size:=by
    have e':c=z\/c=TI\/c=TO\/c=i1\/c=i2:=by simpa using hcm
    rcases e' with q | q | q | q | q
    ·rw [q]; exact hzl
    ·rw [q]; exact Heap.lt_size hTI
    ·rw [q]; exact Heap.lt_size hTO
    ·rw [q]; obtain ⟨_,e1,_⟩:=h1; exact Heap.lt_size e1
    ·rw [q]; obtain ⟨_,e2,_⟩:=h2; exact Heap.lt_size e2
   rw [upd_ne (Nat.ne_of_lt hlt)]
   exact (hf c hcm).1
 done:=by
  intro X hP hw hK hc i pins s σ H E I hf st hg
  subst hP hw hK
  obtain ⟨hz,hTI,⟨x0,y0,hTO⟩,h1,h2⟩:=st
  obtain ⟨xs,ys,hqx,hqy,hend⟩:=hg
  obtain ⟨its,rv,p,_⟩:=I.list hqx
  obtain ⟨its2,rv2,p2,_⟩:=I.list hqy
  have l1:=rv.length
  have l2:=rv2.length
  have he:its.toArray[i]?=none\/its2.toArray[i]?=none:=by
   rcases hend with q | q
   ·exact .inl (by simp; omega)
   ·exact .inr (by simp; omega)
  exact wpAny_pyNext_zip_end (I.ok.hd hc) D hz hTI hTO h1 h2 p.isList p2.isList he fun h' hk=>⟨rfl,I.turnedL (t':=s.toks) (ch:=[z,TI,TO,i1,i2]) (fun c o hb q =>
   hk c o (fun q'=>hb (by simp [q'])) (fun q'=>hb (by simp [q'])) (fun q'=>hb (by simp [q'])) (fun q'=>hb (by simp [q'])) q) hf⟩
 self:=fun A i s Q E st h=>wpAny_pyIter_zip st.1 h
def iZip (K:PySem.W.Frag) (ta:TA):TI:=fun σ H R=>ta σ H fun vs H1=>∃ a b xs ys,vs=[.ref a,.ref b]/\SqL K H1 a xs/\SqL K H1 b ys/\R (Itz K a b) H1
theorem pi_zip {X:Cx} {e e2:Expr} {ta:TA} {p pos tpos:Pos} {elts:List Expr} {kk:Nat} (hg:Gl X "zip") (hm:X.mg "zip" = none) (ha:PA X [e,e2] ta)
  (hs:starEach [e,e2] X.env=(false,eval e X.env) :: starEach [e2] X.env:=by rfl) (hpl:(backTo pos (starEach [e2] X.env)).any (·.1)=false:=by rfl) :
  PI X (.Tuple elts kk tpos) (.Call (.Name "zip" p) [e,e2] [] pos) (iZip X.K ta):=by
 intro pins s σ H R I h
 refine Call_ (ld_blt I hg hm boot_zip5 (PyProof.Rows.callWith_type1 (thn (ha pos pins s σ H _ I h) fun us s1 ⟨vs,H1,I1,r1,q1⟩=>?_) hs hpl))
 obtain ⟨a,b,xs,ys,ex,hqx,hqy,q⟩:=q1
 subst ex
 cases r1 with
 | cons r rr =>
  cases rr with
  | cons r' rr =>
   cases rr
   cases r
   cases r'
   obtain ⟨its,rv,p1,_⟩:=I1.list hqx
   obtain ⟨its2,rv2,p2,_⟩:=I1.list hqy
   have la:a < s1.heap.objs.size:=p1.lt
   have lb:b < s1.heap.objs.size:=p2.lt
   refine call_zip_2 p1.isList p2.isList fun h' hz hTI hTO h1 h2 hsz hk=>wpAny_pyIter_zip hz ?_
   have I2:Inv X pins σ H1 { s1 with heap:=h' }:=I1.kept (t':=s1.toks) hk
   refine ⟨s1.heap.objs.size+4,[s1.heap.objs.size+4,s1.heap.objs.size+2,s1.heap.objs.size+3,s1.heap.objs.size,s1.heap.objs.size+1],_,_,H1,rfl,I2,turn_zip (PySem.W.ktu_apart s1.heap.objs.size a b la lb),⟨hz,hTI,⟨_,_,hTO⟩,h1,h2⟩,fun c hcm=>?_,q⟩
   have e':c=s1.heap.objs.size+4\/c=s1.heap.objs.size+2\/c=s1.heap.objs.size+3\/c=s1.heap.objs.size\/c=s1.heap.objs.size+1:=by simpa using hcm
   have hle:s1.heap.objs.size<=c:=by
    rcases e' with z | z | z | z | z
    ·rw [z]; exact Nat.le_add_right _ _
    ·rw [z]; exact Nat.le_add_right _ _
    ·rw [z]; exact Nat.le_add_right _ _
    ·rw [z]; exact Nat.le_refl _
    ·rw [z]; exact Nat.le_add_right _ _
   exact I1.fpOk hle (I1.hok.fresh hle)
end L2
section
namespace Bits
open PySem PyProof.Rows
end Bits
end
section
namespace TL
open PySem PySem.Builtin PySem.Builtin.Str PySem.StrLaws
def pre (S l:List Nat):Bool:=l.take S.length == S
theorem join_eq (y:Str) (parts:List Str):Txt.join y parts=Str.join y parts:=glued_eq_join y parts
end TL
end
namespace L2
open PySem PySem.Spec PyProof.Rows
theorem strs_of_vals:∀ {ys:List Str} {us:List Value},Vals (ys.map V.str) us->StrsAre us ys
 | [],_,.nil=>.nil
 | y :: ys,_,.cons r t=>by
  obtain ⟨k,rfl⟩:=r
  exact .cons y k (strs_of_vals t)
section
variable {X:Cx} {pins:List (Addr×Obj)} {σ:St} {H:Hp} {s:Shared} {Q:VK}
end
section
variable {X:Cx}
theorem mt_join:MtR X "str.join" (fun x xs H Q=>∃ a p,∃ ys:List Str,x=.str a/\xs=[.ref p]/\(SqL X.K H p (ys.map V.str)\/SqT X.K H p (ys.map V.str)) /\
  (ys.map (·.length)).sum+ys.length * a.length<=16777216/\Q (.str (Txt.join a ys)) H):=by
 intro pins s σ H x xs v us Q I rx rs h
 obtain ⟨a,p,ys,rfl,rfl,hp,hz,h⟩:=h
 obtain ⟨t,rfl⟩:=rx
 cases rs with
 | cons r1 rs =>
  cases rs
  cases r1
  rcases hp with hp | hp
  ·obtain ⟨its,r,⟨o,n,ho,hc,_,hd⟩,_⟩:=I.list hp
   exact PyProof.Rows.join_list (items:=its.toArray) ⟨o,ho,hc,n,hd⟩ (by rw [List.toList_toArray]; exact strs_of_vals r) hz fun t' k=>⟨.str _,H,I.tok k,⟨t',rfl⟩,h⟩
  ·obtain ⟨its,r,ht,_⟩:=I.tuple hp
   exact PyProof.Rows.join_tuple (items:=its.toArray) ht (by rw [List.toList_toArray]; exact strs_of_vals r) hz fun t' k=>⟨.str _,H,I.tok k,⟨t',rfl⟩,h⟩
end
section
variable {X:Cx} {o e:Expr} {to te:TE}
def tM1 (r:V->List V->Hp->VK->Prop) (to te:TE):TE:=fun σ H Q=>to σ H fun x H1=>(∃ a,x=.str a)/\te σ H1 fun y H2=>r x [y] H2 Q
theorem pe_m1 {id:String} {name:Str} {apos pos:Pos} {r:V->List V->Hp->VK->Prop} (slot:Slot "str" name id) (ty:typeOf (.builtin id)=pure (.type "method_descriptor")) (rule:MtR X id r) (ho:PE X o to) (he:PE X e te)
  (hs:starEach [e] X.env=[(false,eval e X.env)]:=by rfl) (hbase:attributeBase o name X.env (eval o X.env)=eval o X.env:=by rfl) (hline:(apos.endLine == pos.line)=true:=by rfl) :
  PE X (.Call (.Attribute o name apos) [e] [] pos) (tM1 r to te):=by
 intro pins s σ H Q I h
 refine PySem.Call_method1 hbase hs hline (thn (ho pins s σ H _ I h) fun v s1 ⟨x,H1,I1,r1,q1⟩=>?_)
 obtain ⟨⟨a,rfl⟩,q1⟩:=q1
 obtain ⟨t,rfl⟩:=_root_.id r1
 refine ⟨"str",_,F.plainAttrs_str,slot,ty,typeIs_str _ _ _,(fun _ e=>nomatch e),Calls.callWith_builtin rfl (Calls.evalArgs_plain (Calls.spliced_cons ?_))⟩
 exact thn (he pins s1 σ H1 _ I1 q1) fun u s2 ⟨y,H2,I2,r2,q2⟩=>Calls.spliced_nil (rule pins s2 σ H2 _ [y] _ [u] Q I2 r1 (.cons r2 .nil) q2)
theorem pe_join {apos pos:Pos} (ho:PE X o to) (he:PE X e te) (hs:starEach [e] X.env=[(false,eval e X.env)]:=by rfl) (hbase:attributeBase o "join" X.env (eval o X.env)=eval o X.env:=by rfl) (hline:(apos.endLine == pos.line)=true:=by rfl) :
  PE X (.Call (.Attribute o "join" apos) [e] [] pos) (tM1 (fun x xs H Q=>∃ a p,∃ ys:List Str,x=.str a/\xs=[.ref p]/\(SqL X.K H p (ys.map V.str)\/SqT X.K H p (ys.map V.str)) /\
   (ys.map (·.length)).sum+ys.length * a.length<=16777216/\Q (.str (Txt.join a ys)) H) to te) :=
 pe_m1 F.slot_str_join F.type_str_join mt_join ho he hs hbase hline
end
end L2
namespace L2
open PySem PySem.Spec PyProof.Rows
section
variable {X:Cx}
end
end L2
namespace Att
open PySem PySem.W PySem.Calls PyProof.Rows
section
variable {prog:Program} {w:World} {A:Around} {E:Value->Shared->Prop} {s:Shared} {K:Frag}
theorem call_fn {R:Result->Shared->Prop} {name qual:Str} {params:Arguments} {body:List Stmt} {scope:Scope} {dV kV doc pm cdv ct oc:Value} {an od:Option Addr} {osl:Array (Option Value)} {f:Addr} {args:Args} {binds:List (Str×Value)}
  (X:K.In s.heap) (hlim:s.heap.NoLimit) (ho:K.lookup f=some ⟨oc,od,.func (fnOf name qual params body scope dV kV doc pm an cdv ct),osl⟩) (hcd:codeIn K cdv qual=true) (hroom:A.depth < recursionLimit)
  (hbind:BindsTo s (fnOf name qual params body scope dV kV doc pm an cdv ct) args binds)
  (hkind:(binds.all fun y=>scope.names.lookup y.1 == some .local || scope.names.lookup y.1 == some .cell)=true)
  (h:∀ s₁,InCallC s s.heap.objs.size (bindL (envOfC qual scope s.heap.objs.size f cdv).kindOf binds fun _=>none) (cellsFrom (s.heap.objs.size+1) scope.names [])
    (bindC (envOfC qual scope s.heap.objs.size f cdv).kindOf binds fun _=>none) s₁ ->
   wpAny (model prog w) (A.deeper (envOfC qual scope s.heap.objs.size f cdv)) (execs body (envOfC qual scope s.heap.objs.size f cdv))
    (fun fl s'=>R (.ok (.ret (match fl with | .ret v=>v | _=>.none))) s')
    (fun e s'=>wpAny (model prog w) (A.deeper (envOfC qual scope s.heap.objs.size f cdv)) (leaving (envOfC qual scope s.heap.objs.size f cdv) e) (fun _ s''=>R (.error e) s'') (fun e' s''=>R (.error e') s'') s') s₁)
  (hco:scope.isCoroutine=false) (hgen:scope.isGenerator=false) (hk:scope.kind=.function):codeAny (model prog w) A (.call (.ref f) args) R s:=by
 refine codeAny_call_function hroom (X _ _ ho) rfl hco hgen rfl (codeRec_of X hcd) (hbind _ _ _ _ ?_)
 refine wpAny_newFunctionEnv_cells hk (kindsX hkind _) fun env he s₁ x=>?_
 subst he
 exact ⟨hlim.keeps x.toInCall.keep,codeAny_func (h s₁ x)⟩
theorem get_method {x C f:Addr} {ox:Obj} {es:List DictEntry} {n:Nat} {name:Str} {pl:Sem Bool} {Q:Value×List Value->Shared->Prop}
  (X:K.In s.heap) (I:PySem.W.InstAt s.heap x ox C (some (dictOf es n))) (hg:plainGet K C name=true) (hf:findIn K (.ref C) name=some (some (.ref f))) (ht:isFn K (.ref f)=true)
  (hl:getL name es=some none) (h:Q (.ref f,[.ref x]) s):wpAny (model prog w) A (getMethod (.ref x) name pl) Q E s :=
 method_fn X I (plainGet_of hg).1 (plainGet_of hg).2 hf (beq_iff_eq.mp ht) (by show (lookIn name (dictOf es n)).map _=_; rw [lookIn_dict,hl]; rfl) h
end
end Att
namespace L2
open PySem PySem.Spec PyProof.Rows
end L2
namespace L2
open PySem PySem.Spec PyProof.Rows
end L2
namespace L2
open PySem PySem.Spec PyProof.Rows
def inClass (s:Stmt) (j:Nat):Stmt:=match s with
 | .ClassDef _ _ _ body _ _ _ _ _ _ _=>body.getD j (.Pass ⟨0,0,0,0⟩)
 | _=>.Pass ⟨0,0,0,0⟩
def defArgs (s:Stmt):Arguments:=match s with
 | .FunctionDef _ a _ _ _ _ _ _ _ _=>a
 | _=>{ posonlyargs:=[],args:=[],vararg:=none,kwonlyargs:=[],kw_defaults:=[],kwarg:=none,defaults:=[] }
def defBody (s:Stmt):List Stmt:=match s with
 | .FunctionDef _ _ b _ _ _ _ _ _ _=>b
 | _=>[]
def defScope (s:Stmt):Scope:=match s with
 | .FunctionDef _ _ _ _ _ _ sc _ _ _=>sc
 | _=>{ kind:=.function,names:=[],isGenerator:=false,isCoroutine:=false }
abbrev CX0:CXT:=fun _ _ _ _ _ _=>False
abbrev E0:XK:=fun _ _ _=>False
theorem pass0 {X:Cx}:Passes CX0 X E0:=fun _ _ _ _ _ _ _ h=>h.elim
structure Fun (K:PySem.W.Frag) (x qual:Str) (st:Stmt) (f:Addr) (fd:FuncData):Prop where
 ex:∃ (oc:Value) (od:Option Addr) (kV doc pm:Value) (an:Option Addr) (cdv ct:Value) (osl:Array (Option Value)),
  fd=PySem.W.fnOf x qual (defArgs st) (defBody st) (defScope st) .none kV doc pm an cdv ct/\K.lookup f=some ⟨oc,od,.func fd,osl⟩/\PySem.W.codeIn K cdv qual=true
 kp:PySem.W.keepIn K (.ref f)=true
section
variable {P:Program} {w:World} {K:PySem.W.Frag} {mg:Str->Option Value} {base:Heap}
theorem Fun.ok {x qual:Str} {st:Stmt} {f:Addr} {fd:FuncData} {N ps:List Str} {k:Nat} {sp:Sp} (F:Fun K x qual st f fd) (S:FnScope N ps (defScope st)) (len:∀ vs H Q E,sp vs H Q E->vs.length=ps.length)
  (hbody:∀ (cdv:Value) (A:Around) (outer:List Env) (s:Shared) (H:Hp) (vs:List V) (Q:VK) (E:XK),Room k (A.deeper (envOfC qual (defScope st) s.heap.objs.size f cdv))->sp vs H Q E ->
   ∃ t,PSs (cxOf CX0 P w K mg base N qual (defScope st) f cdv A outer s H E).nox (defBody st) t/\t { nx:=fun _ H'=>Q .non H',rt:=Q } (start N vs) H):FnOk P w K mg base CX0 (k+1) f fd ps sp:=by
 obtain ⟨oc,od,kV,doc,pm,an,cdv,ct,osl,rfl,lk,hcd⟩:=F.ex
 refine fn_of lk hcd S len fun A outer s H vs Q E hr hsp=>?_
 obtain ⟨t,h,q⟩:=hbody cdv A outer s H vs Q E hr hsp
 exact ⟨t,h.nox,q⟩
theorem Fun.binds {x qual:Str} {st:Stmt} {f:Addr} {fd:FuncData} {ps:List Str} (F:Fun K x qual st f fd)
  (h:∀ (kV doc pm:Value) (an:Option Addr) (cdv ct:Value) (us:List Value),us.length=ps.length->bindArgs (PySem.W.fnOf x qual (defArgs st) (defBody st) (defScope st) .none kV doc pm an cdv ct) ⟨us,[]⟩=pure (ps.zip us)):Binds K fd ps []:=by
 obtain ⟨oc,od,kV,doc,pm,an,cdv,ct,osl,rfl,lk,hcd⟩:=F.ex
 exact .all (h kV doc pm an cdv ct)
theorem fun_mk {x qual:Str} {st:Stmt} {f:Addr} {oc:Value} {od an:Option Addr} {osl:Array (Option Value)} {kV doc pm cdv ct:Value} (l:K.lookup f=some ⟨oc,od,.func (PySem.W.fnOf x qual (defArgs st) (defBody st) (defScope st) .none kV doc pm an cdv ct),osl⟩)
  (c:PySem.W.codeIn K cdv qual=true) (k:PySem.W.keepIn K (.ref f)=true):Fun K x qual st f (PySem.W.fnOf x qual (defArgs st) (defBody st) (defScope st) .none kV doc pm an cdv ct):=⟨⟨oc,od,kV,doc,pm,an,cdv,ct,osl,rfl,l,c⟩,k⟩
end
section
variable {X:Cx}
theorem pv (i:Nat) {x:Str} {pos:Pos} (hN:X.N[i]?=some x:=by rfl) (hv:Vis X.env.scope x:=by first | exact Or.inl rfl | exact Or.inr (Or.inl rfl) | exact Or.inr (Or.inr rfl)) (hd:(x == ("__debug__" : Str))=false:=by decide)
  (hcd:(x == ("__classdict__" : Str))=false:=by decide):PE X (.Name x pos) (tVar i):=pe_var hN hv hd hcd
end
theorem iteF {A B:Prop} (h:B):if false=true then A else B:=by
 rw [if_neg Bool.false_ne_true]
 exact h
theorem iteT {A B:Prop} (h:A):if true=true then A else B:=by
 rw [if_pos rfl]
 exact h
theorem ite2 {c A B:Prop} [Decidable c] (h1:c->A) (h2:¬ c->B):if c then A else B:=by
 by_cases h:c
 ·rw [if_pos h]
  exact h1 h
 ·rw [if_neg h]
  exact h2 h
section
variable {κ:Type} [DecidableEq κ]
theorem dropK_pos {p:κ×V} {r:List (κ×V)} {k:κ} (e:p.1=k):dropK (p :: r) k=dropK r k:=by
 unfold dropK
 rw [List.filter_cons,if_neg (by simp [e])]
theorem dropK_neg {p:κ×V} {r:List (κ×V)} {k:κ} (e:¬ p.1=k):dropK (p :: r) k=p :: dropK r k:=by
 unfold dropK
 rw [List.filter_cons,if_pos (by simp [e])]
end
end L2
set_option maxHeartbeats 2000000
namespace L2
open PySem PySem.Spec PyProof.Rows
open PySem.W (WData Codec OpenSpec Well WellAll ReadsW ReadsAllW)
mutual
/-- x stands for the datum d,lists and tuples all the way -/
inductive Dw (K:PySem.W.Frag) (H:Hp):V->WData->Prop
 | non:Dw K H .non .none
 | bl (b:Bool):Dw K H (.bl b) (.bool b)
 | int (i:Int):Dw K H (.int i) (.int i)
 | str (x:Str):Dw K H (.str x) (.str x)
 | byt (b:Array UInt8):Dw K H (.byt b) (.bytes b.toList)
 | lst {a:Addr} {xs:List V} {ds:List WData}:SqL K H a xs->DwAll K H xs ds->Dw K H (.ref a) (.list ds)
 | tup {a:Addr} {xs:List V} {ds:List WData}:SqT K H a xs->DwAll K H xs ds->Dw K H (.ref a) (.tuple ds)
inductive DwAll (K:PySem.W.Frag) (H:Hp):List V->List WData->Prop
 | nil:DwAll K H [] []
 | cons {v:V} {vs:List V} {d:WData} {ds:List WData}:Dw K H v d->DwAll K H vs ds->DwAll K H (v :: vs) (d :: ds)
end
theorem dw_ints {K:PySem.W.Frag} {H:Hp}:∀ ns:List Int,DwAll K H (ns.map V.int) (ns.map WData.int)
 | []=>.nil
 | n :: r=>.cons (.int n) (dw_ints r)
theorem ints_dw {K:PySem.W.Frag} {H:Hp}:∀ (ns:List Int) (xs:List V),DwAll K H xs (ns.map WData.int)->xs=ns.map V.int
 | [],xs,h=>by
  cases h
  rfl
 | n :: r,xs,h=>by
  cases h with
  | cons h1 h2 =>
   cases h1
   rw [ints_dw r _ h2] <;> rfl
section
variable {P:Program} {w:World} {K:PySem.W.Frag} {H:Hp} {h:Heap} {R:PySem.W.WRecords} {cl:Str->Option Addr}
theorem sqL_at {a:Addr} {xs:List V} (hok:HOk P w H h) (KX:K.In h) (q:SqL K H a xs):∃ (its:List Value) (o:Obj) (n:Nat),Vals xs its/\h.get? a=some o/\o.cls=.type "list" /\ o.data=.seq its.toArray n:=by
 rcases q with q | ⟨o,its,n,e,hc,_,hd,_,hv⟩
 ·obtain ⟨_,its,n,hv,e⟩:=(show ObjOk P w H h a (.lst xs) from q.ok hok)
  exact ⟨its,_,n,hv,e,rfl,rfl⟩
 ·exact ⟨its.toList,o,n,hv,KX _ _ e,hc,by simp [hd]⟩
theorem sqT_at {a:Addr} {xs:List V} (hok:HOk P w H h) (KX:K.In h) (q:SqT K H a xs):∃ (its:List Value) (o:Obj) (n:Nat),Vals xs its/\h.get? a=some o/\o.cls=.type "tuple" /\ o.data=.seq its.toArray n:=by
 rcases q with q | ⟨o,its,n,e,hc,hd,_,hv⟩
 ·obtain ⟨_,its,hv,o,e,hc,n,hd⟩:=(show ObjOk P w H h a (.tup xs) from q.ok hok)
  exact ⟨its,o,n,hv,e,hc,hd⟩
 ·exact ⟨its.toList,o,n,hv,KX _ _ e,hc,by simp [hd]⟩
mutual
theorem Dw.reads (hok:HOk P w H h) (KX:K.In h):∀ (d:WData) (v:V) (u:Value),Dw K H v d->RelV v u->∃ as,ReadsW R cl h u d as
 | .none,_,_,x,r=>by
  cases x
  cases r
  exact ⟨_,ReadsW.none⟩
 | .bool b,_,_,x,r=>by
  cases x
  cases r
  exact ⟨_,ReadsW.bool b⟩
 | .int i,_,_,x,r=>by
  cases x
  obtain ⟨t,rfl⟩:=r
  exact ⟨_,ReadsW.int i t⟩
 | .str s,_,_,x,r=>by
  cases x
  obtain ⟨t,rfl⟩:=r
  exact ⟨_,ReadsW.str s t⟩
 | .bytes b,_,_,x,r=>by
  cases x
  obtain ⟨t,rfl⟩:=r
  exact ⟨_,ReadsW.bytes _ t⟩
 | .list ds,_,_,x,r=>by
  cases x with
  | lst hs ha =>
   cases r
   obtain ⟨its,o,n,rv,ho,hc,hd⟩:=sqL_at hok KX hs
   obtain ⟨as,hr⟩:=Dw.readsAll hok KX ds _ its ha rv
   exact ⟨_,ReadsW.list ho hc hd hr⟩
 | .tuple ds,_,_,x,r=>by
  cases x with
  | tup hs ha =>
   cases r
   obtain ⟨its,o,n,rv,ho,hc,hd⟩:=sqT_at hok KX hs
   obtain ⟨as,hr⟩:=Dw.readsAll hok KX ds _ its ha rv
   exact ⟨_,ReadsW.tuple ho hc hd hr⟩
 | .float _,_,_,x,_=>by cases x
 | .dict _,_,_,x,_=>by cases x
 | .bytearray _,_,_,x,_=>by cases x
 | .set _,_,_,x,_=>by cases x
 | .frozenset _,_,_,x,_=>by cases x
 | .obj _ _,_,_,x,_=>by cases x
theorem Dw.readsAll (hok:HOk P w H h) (KX:K.In h):∀ (ds:List WData) (vs:List V) (us:List Value),DwAll K H vs ds->Vals vs us->∃ as,ReadsAllW R cl h us ds as
 | [],_,_,x,r=>by
  cases x
  cases r
  exact ⟨_,ReadsAllW.nil⟩
 | d :: ds,_,_,x,r=>by
  cases x with
  | cons h1 h2 =>
   cases r with
   | cons r1 r2 =>
    obtain ⟨as,q1⟩:=Dw.reads hok KX d _ _ h1 r1
    obtain ⟨bs,q2⟩:=Dw.readsAll hok KX ds _ _ h2 r2
    exact ⟨_,ReadsAllW.cons q1 q2⟩
end
end
mutual
/-- data that a codec tells -/
def plW:WData->Bool
 | .none=>true
 | .bool _=>true
 | .int _=>true
 | .str _=>true
 | .bytes _=>true
 | .list xs=>plWs xs
 | .tuple xs=>plWs xs
 | _=>false
def plWs:List WData->Bool
 | []=>true
 | x :: r=>plW x && plWs r
end
theorem plWs_map {α:Type} {f:α->WData} (h:∀ a,plW (f a)=true):∀ l:List α,plWs (l.map f)=true
 | []=>rfl
 | x :: r=>by
  show (plW (f x) && plWs (r.map f))=true
  rw [h x,plWs_map h r] <;> rfl
theorem pl_enc:∀ (c:Codec) (a:c.denote),plW (c.enc a)=true
 | .unit,_=>rfl
 | .bool,_=>rfl
 | .int _ _,_=>rfl
 | .nat _ _,_=>rfl
 | .u8,_=>rfl
 | .bytes _ _,_=>rfl
 | .text _ _ _ _,_=>rfl
 | .list _ _ c,a=>plWs_map (fun x=>pl_enc c x) a
 | .pair c d,a=>by
  show (plW (c.enc a.1) && (plW (d.enc a.2) && true))=true
  rw [pl_enc c a.1,pl_enc d a.2] <;> rfl
 | .triple c d e,a=>by
  show (plW (c.enc a.1) && (plW (d.enc a.2.1) && (plW (e.enc a.2.2) && true)))=true
  rw [pl_enc c a.1,pl_enc d a.2.1,pl_enc e a.2.2] <;> rfl
 | .option c,none=>rfl
 | .option c,some x=>pl_enc c x
theorem pl_encAll:∀ (cs:List Codec) (a:Codec.denoteAll cs),plWs (Codec.encAll cs a)=true
 | [],_=>rfl
 | c :: cs,a=>by
  show (plW (c.enc a.1) && plWs (Codec.encAll cs a.2))=true
  rw [pl_enc c a.1,pl_encAll cs a.2] <;> rfl
theorem weight_mem:∀ {xs:List WData} {d:WData},d ∈ xs->d.weight<=WData.weightAll xs
 | [],d,h=>absurd h (by simp)
 | x :: r,d,h=>by
  show d.weight<=x.weight+1+WData.weightAll r
  rcases List.mem_cons.mp h with e | m
  ·rw [e]
   omega
  ·have z:=weight_mem m
   omega
def toV:Value->V
 | .none=>.non
 | .bool b=>.bl b
 | .int i _=>.int i
 | .str x _=>.str x
 | .bytes b _=>.byt b
 | .ref a=>.ref a
 | _=>.non
def OkU (A:List Addr):Value->Prop
 | .none=>True
 | .bool _=>True
 | .int _ _=>True
 | .str _ _=>True
 | .bytes _ _=>True
 | .ref a=>a ∈ A
 | _=>False
theorem OkU.mono {A B:List Addr} (h:∀ a ∈ A,a ∈ B):∀ {u:Value},OkU A u->OkU B u:=fun {u} x=>by
 cases u with
 | ref a=>exact h a x
 | none=>trivial
 | bool b=>trivial
 | int i t=>trivial
 | str s t=>trivial
 | bytes b t=>trivial
 | _=>exact False.elim x
theorem relV_toV {A:List Addr} {u:Value} (x:OkU A u):RelV (toV u) u:=by
 cases u with
 | ref a=>rfl
 | none=>rfl
 | bool b=>rfl
 | int i t=>exact ⟨t,rfl⟩
 | str s t=>exact ⟨t,rfl⟩
 | bytes b t=>exact ⟨t,rfl⟩
 | _=>exact False.elim x
theorem vals_toV {A:List Addr}:∀ {vs:List Value},(∀ u ∈ vs,OkU A u)->Vals (vs.map toV) vs
 | [],_=>.nil
 | u :: r,h=>.cons (relV_toV (h u (List.mem_cons_self ..))) (vals_toV fun x hx=>h x (List.mem_cons_of_mem _ hx))
def ArgOb (h:Heap) (A:List Addr) (a:Addr):Prop:=∃ vs:List Value,vs.length<=sizeLine/\(∀ u ∈ vs,OkU A u) /\
 (h.get? a=some { cls:=.type "list",data:=.seq vs.toArray }\/h.get? a=some { cls:=.type "tuple",data:=.seq vs.toArray })
theorem ArgOb.mono {h:Heap} {A B:List Addr} {a:Addr} (k:∀ a ∈ A,a ∈ B) (x:ArgOb h A a):ArgOb h B a:=by
 obtain ⟨vs,h1,h2,h3⟩:=x
 exact ⟨vs,h1,fun u hu=>(h2 u hu).mono k,h3⟩
theorem wellAll_len {P:Params} {h:Heap}:∀ {vs:List Value} {ds:List WData},WellAll P h vs ds->vs.length=ds.length
 | _,_,.nil=>rfl
 | _,_,.cons _ b=>by
  show _+1=_+1
  rw [wellAll_len b]
theorem well_list {P:Params} {h:Heap} {v:Value} {ds:List WData} (x:Well P h v (.list ds)):∃ (a:Addr) (vs:List Value),v=.ref a/\h.get? a=some { cls:=.type "list",data:=.seq vs.toArray }/\WellAll P h vs ds:=by
 cases x with
 | list ho hall=>exact ⟨_,_,rfl,ho,hall⟩
theorem well_tuple {P:Params} {h:Heap} {v:Value} {ds:List WData} (x:Well P h v (.tuple ds)):∃ (a:Addr) (vs:List Value),v=.ref a/\h.get? a=some { cls:=.type "tuple",data:=.seq vs.toArray }/\WellAll P h vs ds:=by
 cases x with
 | tuple ho hall=>exact ⟨_,_,rfl,ho,hall⟩
theorem well_cons {P:Params} {h:Heap} {us:List Value} {d:WData} {ds:List WData} (x:WellAll P h us (d :: ds)):∃ (v:Value) (vs:List Value),us=v :: vs/\Well P h v d/\WellAll P h vs ds:=by
 cases x with
 | cons a b=>exact ⟨_,_,rfl,a,b⟩
theorem line_of {n:Nat} (h:n<=1048576):n<=sizeLine:=Nat.le_trans h (by decide)
section
variable {P:Params} {h:Heap}
mutual
theorem area_one:∀ (d:WData) (v:Value),Well P h v d->plW d=true->d.weight<=1048576->∃ A:List Addr,OkU A v/\∀ a ∈ A,ArgOb h A a
 | .none,_,x,_,_=>by
  cases x
  exact ⟨[],trivial,fun a m=>absurd m (by simp)⟩
 | .bool b,_,x,_,_=>by
  cases x
  exact ⟨[],trivial,fun a m=>absurd m (by simp)⟩
 | .int i,_,x,_,_=>by
  cases x
  exact ⟨[],trivial,fun a m=>absurd m (by simp)⟩
 | .str s,_,x,_,_=>by
  cases x
  exact ⟨[],trivial,fun a m=>absurd m (by simp)⟩
 | .bytes b,_,x,_,_=>by
  cases x
  exact ⟨[],trivial,fun a m=>absurd m (by simp)⟩
 | .list ds,_,x,p,z=>by
  obtain ⟨a,vs,rfl,ho,hall⟩:=well_list x
  have z2:WData.weightAll ds<=1048576:=z
  obtain ⟨A,h1,h2⟩:=area_all ds _ hall p fun d hd=>Nat.le_trans (weight_mem hd) z2
  have k:∀ b ∈ A,b ∈ a :: A:=fun b hb=>List.mem_cons_of_mem _ hb
  refine ⟨a :: A,List.mem_cons_self ..,fun b hb=>?_⟩
  rcases List.mem_cons.mp hb with e | m
  ·rw [e]
   exact ⟨vs,line_of (by rw [wellAll_len hall]; exact Nat.le_trans (PySem.W.length_le_weightAllW ds) z2),fun u hu=>(h1 u hu).mono k,.inl ho⟩
  ·exact (h2 b m).mono k
 | .tuple ds,_,x,p,z=>by
  obtain ⟨a,vs,rfl,ho,hall⟩:=well_tuple x
  have z2:WData.weightAll ds<=1048576:=z
  obtain ⟨A,h1,h2⟩:=area_all ds _ hall p fun d hd=>Nat.le_trans (weight_mem hd) z2
  have k:∀ b ∈ A,b ∈ a :: A:=fun b hb=>List.mem_cons_of_mem _ hb
  refine ⟨a :: A,List.mem_cons_self ..,fun b hb=>?_⟩
  rcases List.mem_cons.mp hb with e | m
  ·rw [e]
   exact ⟨vs,line_of (by rw [wellAll_len hall]; exact Nat.le_trans (PySem.W.length_le_weightAllW ds) z2),fun u hu=>(h1 u hu).mono k,.inr ho⟩
  ·exact (h2 b m).mono k
 | .float _,_,_,p,_=>Bool.noConfusion (show false=true from p)
 | .dict _,_,_,p,_=>Bool.noConfusion (show false=true from p)
 | .bytearray _,_,_,p,_=>Bool.noConfusion (show false=true from p)
 | .set _,_,_,p,_=>Bool.noConfusion (show false=true from p)
 | .frozenset _,_,_,p,_=>Bool.noConfusion (show false=true from p)
 | .obj _ _,_,_,p,_=>Bool.noConfusion (show false=true from p)
theorem area_all:∀ (ds:List WData) (vs:List Value),WellAll P h vs ds->plWs ds=true->(∀ d ∈ ds,d.weight<=1048576)->∃ A:List Addr,(∀ u ∈ vs,OkU A u)/\∀ a ∈ A,ArgOb h A a
 | [],_,x,_,_=>by
  cases x
  exact ⟨[],fun u m=>absurd m (by simp),fun a m=>absurd m (by simp)⟩
 | d :: ds,_,x,p,z=>by
  obtain ⟨v,vs,rfl,x1,x2⟩:=well_cons x
  have q:plW d=true/\plWs ds=true:=Bool.and_eq_true_iff.mp p
  obtain ⟨A,a1,a2⟩:=area_one d v x1 q.1 (z d (List.mem_cons_self ..))
  obtain ⟨B,b1,b2⟩:=area_all ds vs x2 q.2 fun e he=>z e (List.mem_cons_of_mem _ he)
  have kA:∀ b ∈ A,b ∈ A++B:=fun b hb=>List.mem_append.mpr (.inl hb)
  have kB:∀ b ∈ B,b ∈ A++B:=fun b hb=>List.mem_append.mpr (.inr hb)
  refine ⟨A++B,fun u hu=>?_,fun b hb=>?_⟩
  ·rcases List.mem_cons.mp hu with e | m
   ·rw [e]
    exact a1.mono kA
   ·exact (b1 u m).mono kB
  ·rcases List.mem_append.mp hb with m | m
   ·exact (a2 b m).mono kA
   ·exact (b2 b m).mono kB
end
end
def hoOf (o:Obj):Option HO:=match o.data with
 | .seq vs _=>if (o.cls == Value.type "list")=true then some (.frz o (.lst (vs.toList.map toV))) else some (.frz o (.tup (vs.toList.map toV)))
 | _=>none
def argH (K:PySem.W.Frag) (h:Heap) (A:List Addr):Hp:=fun b=>if b ∈ A then (if (K.lookup b).isNone=true then (h.get? b).bind hoOf else none) else none
def OnlyF (H:Hp):Prop:=∀ b,H b=none\/∃ o u,H b=some (.frz o u)
theorem hoOf_lst (vs:List Value):hoOf { cls:=.type "list",data:=.seq vs.toArray }=some (.frz { cls:=.type "list",data:=.seq vs.toArray } (.lst (vs.map toV))):=by
 show (if (Value.type "list" == Value.type "list")=true then some (HO.frz { cls:=.type "list",data:=.seq vs.toArray } (.lst (vs.toArray.toList.map toV))) else some (HO.frz { cls:=.type "list",data:=.seq vs.toArray } (.tup (vs.toArray.toList.map toV))))=_
 rw [if_pos (beq_self_eq_true _)]
theorem hoOf_tup (vs:List Value):hoOf { cls:=.type "tuple",data:=.seq vs.toArray }=some (.frz { cls:=.type "tuple",data:=.seq vs.toArray } (.tup (vs.map toV))):=by
 show (if (Value.type "tuple" == Value.type "list")=true then some (HO.frz { cls:=.type "tuple",data:=.seq vs.toArray } (.lst (vs.toArray.toList.map toV))) else some (HO.frz { cls:=.type "tuple",data:=.seq vs.toArray } (.tup (vs.toArray.toList.map toV))))=_
 rw [if_neg (by decide)]
section
variable {P:Program} {w:World} {K:PySem.W.Frag} {h:Heap} {A:List Addr}
theorem argH_at {b:Addr} {o:Obj} (hb:b ∈ A) (hk:K.lookup b=none) (e:h.get? b=some o):argH K h A b=hoOf o:=by
 unfold argH
 rw [if_pos hb,hk,if_pos (show (none:Option Obj).isNone=true from rfl),e] <;> rfl
theorem of_argH {b:Addr} {u:HO} (q:argH K h A b=some u):b ∈ A/\K.lookup b=none:=by
 unfold argH at q
 by_cases hb:b ∈ A
 ·rw [if_pos hb] at q
  cases hk:K.lookup b with
  | none=>exact ⟨hb,rfl⟩
  | some o =>
   rw [hk,if_neg (by simp)] at q
   cases q
 ·rw [if_neg hb] at q
  cases q
theorem argH_is (ar:∀ a ∈ A,ArgOb h A a) {b:Addr} {u:HO} (q:argH K h A b=some u):K.lookup b=none/\∃ vs:List Value,vs.length<=sizeLine/\(∀ u ∈ vs,OkU A u) /\
    ((h.get? b=some { cls:=.type "list",data:=.seq vs.toArray }/\u=.frz { cls:=.type "list",data:=.seq vs.toArray } (.lst (vs.map toV))) \/
     (h.get? b=some { cls:=.type "tuple",data:=.seq vs.toArray }/\u=.frz { cls:=.type "tuple",data:=.seq vs.toArray } (.tup (vs.map toV)))):=by
  obtain ⟨hb,hk⟩:=of_argH q
  obtain ⟨vs,h1,h2,h3⟩:=ar b hb
  refine ⟨hk,vs,h1,h2,?_⟩
  rcases h3 with e | e
  · rw [argH_at hb hk e,hoOf_lst] at q
    exact .inl ⟨e,(Option.some.inj q).symm⟩
  · rw [argH_at hb hk e,hoOf_tup] at q
    exact .inr ⟨e,(Option.some.inj q).symm⟩
theorem argH_only (ar:∀ a ∈ A,ArgOb h A a):OnlyF (argH K h A):=fun b=>by
 cases q:argH K h A b with
 | none=>exact .inl rfl
 | some u =>
  obtain ⟨_,vs,_,_,⟨_,e⟩ | ⟨_,e⟩⟩:=argH_is ar q
  ·exact .inr ⟨_,_,by rw [e]⟩
  ·exact .inr ⟨_,_,by rw [e]⟩
theorem argH_ok (ar:∀ a ∈ A,ArgOb h A a):HOk P w (argH K h A) h:=fun b u q=>by
 obtain ⟨_,vs,h1,h2,⟨e,rfl⟩ | ⟨e,rfl⟩⟩:=argH_is ar q
 ·exact ⟨e,by rw [List.length_map]; exact h1,vs,_,vals_toV h2,e⟩
 ·exact ⟨e,by rw [List.length_map]; exact h1,vs,vals_toV h2,_,e,rfl,_,rfl⟩
theorem seq_inj {c c':Value} {vs us:List Value} (e:(some { cls:=c,data:=.seq vs.toArray }:Option Obj)=some { cls:=c',data:=.seq us.toArray }):c=c'/\vs=us:=by
 have e1:=Option.some.inj e
 have e2:c=c':=congrArg Obj.cls e1
 have e3:Data.seq vs.toArray=Data.seq us.toArray:=congrArg Obj.data e1
 injection e3 with e4
 refine ⟨e2,?_⟩
 have e5:=congrArg Array.toList e4
 simpa using e5
theorem argL (KX:K.In h) (ar:∀ a ∈ A,ArgOb h A a) {a:Addr} {vs:List Value} (ha:a ∈ A) (e:h.get? a=some { cls:=.type "list",data:=.seq vs.toArray }):(∀ u ∈ vs,OkU A u)/\SqL K (argH K h A) a (vs.map toV):=by
 obtain ⟨us,h1,h2,h3⟩:=ar a ha
 have hu:us=vs:=by
  rcases h3 with q | q
  ·rw [e] at q
   exact (seq_inj q).2.symm
  ·rw [e] at q
   exact absurd (Value.type.inj (seq_inj q).1) (by decide)
 subst hu
 refine ⟨h2,?_⟩
 cases hk:K.lookup a with
 | none=>exact .inl (.inr ⟨_,by rw [argH_at ha hk e,hoOf_lst]⟩)
 | some o =>
  have e2:=KX a o hk
  rw [e] at e2
  obtain rfl:=Option.some.inj e2
  exact .inr ⟨_,us.toArray,_,hk,rfl,rfl,rfl,by rw [List.size_toArray]; exact h1,by simpa using vals_toV h2⟩
theorem argT (KX:K.In h) (ar:∀ a ∈ A,ArgOb h A a) {a:Addr} {vs:List Value} (ha:a ∈ A) (e:h.get? a=some { cls:=.type "tuple",data:=.seq vs.toArray }):(∀ u ∈ vs,OkU A u)/\SqT K (argH K h A) a (vs.map toV):=by
 obtain ⟨us,h1,h2,h3⟩:=ar a ha
 have hu:us=vs:=by
  rcases h3 with q | q
  ·rw [e] at q
   exact absurd (Value.type.inj (seq_inj q).1) (by decide)
  ·rw [e] at q
   exact (seq_inj q).2.symm
 subst hu
 refine ⟨h2,?_⟩
 cases hk:K.lookup a with
 | none=>exact .inl (.inr ⟨_,by rw [argH_at ha hk e,hoOf_tup]⟩)
 | some o =>
  have e2:=KX a o hk
  rw [e] at e2
  obtain rfl:=Option.some.inj e2
  exact .inr ⟨_,us.toArray,_,hk,rfl,rfl,by rw [List.size_toArray]; exact h1,by simpa using vals_toV h2⟩
mutual
theorem dw_one {Pm:Params} (KX:K.In h) (ar:∀ a ∈ A,ArgOb h A a):∀ (d:WData) (v:Value),Well Pm h v d->plW d=true->OkU A v->Dw K (argH K h A) (toV v) d
 | .none,_,x,_,_=>by
  cases x
  exact .non
 | .bool b,_,x,_,_=>by
  cases x
  exact .bl b
 | .int i,_,x,_,_=>by
  cases x
  exact .int i
 | .str s,_,x,_,_=>by
  cases x
  exact .str s
 | .bytes b,_,x,_,_=>by
  cases x
  have z:=Dw.byt (K:=K) (H:=argH K h A) b.toArray
  exact z
 | .list ds,_,x,p,hu=>by
  obtain ⟨a,vs,rfl,ho,hall⟩:=well_list x
  obtain ⟨h2,hs⟩:=argL KX ar hu ho
  exact .lst hs (dw_all KX ar ds _ hall p h2)
 | .tuple ds,_,x,p,hu=>by
  obtain ⟨a,vs,rfl,ho,hall⟩:=well_tuple x
  obtain ⟨h2,hs⟩:=argT KX ar hu ho
  exact .tup hs (dw_all KX ar ds _ hall p h2)
 | .float _,_,_,p,_=>Bool.noConfusion (show false=true from p)
 | .dict _,_,_,p,_=>Bool.noConfusion (show false=true from p)
 | .bytearray _,_,_,p,_=>Bool.noConfusion (show false=true from p)
 | .set _,_,_,p,_=>Bool.noConfusion (show false=true from p)
 | .frozenset _,_,_,p,_=>Bool.noConfusion (show false=true from p)
 | .obj _ _,_,_,p,_=>Bool.noConfusion (show false=true from p)
theorem dw_all {Pm:Params} (KX:K.In h) (ar:∀ a ∈ A,ArgOb h A a):∀ (ds:List WData) (vs:List Value),WellAll Pm h vs ds->plWs ds=true->(∀ u ∈ vs,OkU A u)->DwAll K (argH K h A) (vs.map toV) ds
 | [],_,x,_,_=>by
  cases x
  exact .nil
 | d :: ds,_,x,p,hu=>by
  obtain ⟨v,vs,rfl,x1,x2⟩:=well_cons x
  have q:plW d=true/\plWs ds=true:=Bool.and_eq_true_iff.mp p
  exact .cons (dw_one KX ar d v x1 q.1 (hu _ (List.mem_cons_self ..))) (dw_all KX ar ds vs x2 q.2 fun u m=>hu u (List.mem_cons_of_mem _ m))
end
end
theorem spec_call {P:Program} {w:World} {K:PySem.W.Frag} {mg mb:Str->Option Value} {CX:CXT} {k:Nat} {fa:Addr} {fd:FuncData} {ps:List Str} {sp:Sp} {s₁:Shared} {vals:List Value} {ds:List WData} {R:PySem.W.WRecords} {cl:Str->Option Addr} {d0:WData}
  (KX:K.In s₁.heap) (hns:s₁.heap.Ns mainGlobals mg) (hb:s₁.heap.Ns builtinsNs mb) (hbb:∀ x:Str,x ≠ "__name__" -> mb x=bootBuiltins x) (hlim:s₁.heap.NoLimit) (hg:s₁.gens=#[])
  (hwl:WellAll w.params s₁.heap vals ds) (hpl:plWs ds=true) (hwt:∀ d ∈ ds,d.weight<=1048576) (hr:Room k callerA)
  (F:∀ base:Heap,K.In base->base.Ns mainGlobals mg->FnOk P w K mg base CX k fa fd ps sp) (hbind:∀ (s:Shared) (us:List Value),us.length=ps.length->BindsTo s fd ⟨us,[]⟩ (ps.zip us)) (hlen:ds.length=ps.length)
  (hsp:∀ (H:Hp) (xs:List V),OnlyF H->DwAll K H xs ds->sp xs H (fun v H'=>Dw K H' v d0) fun _ _ _=>False)
  (hCX:∀ H e s',CX [] H s₁ (fun _ _ _=>False) e s'->False) :
  codeAny (model P w) callerA (.call (.ref fa) ⟨vals,[]⟩) (fun r s'=>∃ u as,r=.ok (.ret u)/\ReadsW R cl s'.heap u d0 as/\OldK s₁.heap s'.heap/\s'.os=s₁.os/\AllBare s'.gens) s₁:=by
 obtain ⟨A,ho,ar⟩:=area_all ds vals hwl hpl hwt
 have hO:OnlyF (argH K s₁.heap A):=argH_only ar
 have hok:HOk P w (argH K s₁.heap A) s₁.heap:=argH_ok ar
 have hS:=dw_all KX ar ds vals hwl hpl ho
 have hV:=vals_toV ho
 have hK:∀ b u,argH K s₁.heap A b=some u->K.lookup b=none:=fun b u q=>(argH_is ar q).1
 have noA:∀ {b:Addr} {o:Obj} {es:Array DictEntry} {ep:Nat},s₁.heap.get? b=some o->o.data=.dict es ep->argH K s₁.heap A b=none:=fun {b o es ep} e d=>by
  cases q:argH K s₁.heap A b with
  | none=>rfl
  | some u =>
   obtain ⟨_,vs,_,_,⟨e2,_⟩ | ⟨e2,_⟩⟩:=argH_is ar q
   ·rw [e2] at e
    cases e
    have d':Data.seq vs.toArray _=Data.dict es ep:=d
    cases d'
   ·rw [e2] at e
    cases e
    have d':Data.seq vs.toArray _=Data.dict es ep:=d
    cases d'
 generalize argH K s₁.heap A=H at hO hok hS hK noA
 have base_of:∀ {b:Addr} {o:Obj},s₁.heap.get? b=some o->H b=none->(hidT s₁.heap H).get? b=some o:=fun e n=>hidT_get e n
 have nsK:∀ {b:Addr} {m:Str->Option Value},s₁.heap.Ns b m->(hidT s₁.heap H).Ns b m:=fun {b m} ⟨o,es,ep,e,d,r⟩=>⟨o,es,ep,base_of e (noA e d),d,r⟩
 have nK:∀ b o,K.lookup b=some o->H b=none:=fun b o e=>by
  cases q:H b with
  | none=>rfl
  | some u =>
   rw [hK b u q] at e
   cases e
 have hKb:K.In (hidT s₁.heap H):=fun b o e=>base_of (KX b o e) (nK b o e)
 have hM:Mod K mg (hidT s₁.heap H):=⟨hKb,nsK hns,⟨mb,nsK hb,hbb⟩,let ⟨mc,h1,h2⟩:=hlim; ⟨mc,nsK h1,h2⟩⟩
 have e0:Env0 P w K mg (hidT s₁.heap H) callerA [] s₁ H:=⟨rfl,hM,fun b o e=>of_hidT e,Nat.le_of_eq (hidT_size _ _),trivial,fun b hb=>absurd (show b ∈ ([]:List Addr) from hb) (by simp),hok,.of_eq hg⟩
 have hl:vals.length=ps.length:=by rw [wellAll_len hwl]; exact hlen
 refine codeAny_mono ((F _ hKb (nsK hns)).run callerA [] s₁ H ⟨vals,[]⟩ vals (vals.map toV) _ _ hr e0 (hbind s₁ vals hl) hV (hsp H _ hO hS)) fun r s' x=>?_
 cases r with
 | error e=>exact (hCX H e s' x).elim
 | ok fl =>
  cases fl with
  | next=>exact False.elim x
  | brk=>exact False.elim x
  | cont=>exact False.elim x
  | ret u =>
   obtain ⟨v,H',os,bare,un,hok',r',q⟩:=x
   have kept:∀ b o,s₁.heap.get? b=some o->s'.heap.get? b=some o:=fun b o e=>by
    cases q2:H b with
    | none=>exact un.keep b o e q2 (by intro z; exact absurd (show b ∈ ([]:List Addr) from z) (by simp)) (by simp)
    | some u2 =>
     rcases hO b with z | ⟨ob,u3,z⟩
     ·rw [q2] at z
      cases z
     ·have z2:=un.frzs b ob _ z
      obtain ⟨e1,_⟩:=hok b _ z
      obtain ⟨e2,_⟩:=hok' b _ z2
      rw [e] at e1
      cases e1
      exact e2
   have KX':K.In s'.heap:=fun b o e=>kept b o (KX b o e)
   obtain ⟨as,hrd⟩:=Dw.reads (R:=R) (cl:=cl) hok' KX' d0 v u q r'
   exact ⟨u,as,rfl,hrd,OldK.of_keep kept,os,bare⟩
theorem layable_weight {ds:List WData} (h:WData.layableAll ds=true):∀ d ∈ ds,d.weight<=1048576:=fun d hd =>
 (PySem.W.layableW_iff.mp (List.all_eq_true.mp h d hd)).2.2
theorem encAll_len:∀ (cs:List Codec) (a:Codec.denoteAll cs),(Codec.encAll cs a).length=cs.length
 | [],_=>rfl
 | c :: cs,a=>by
  show (Codec.encAll cs a.2).length+1=cs.length+1
  rw [encAll_len cs a.2]
theorem walk_spec {r:OpenSpec} {k:Nat} {q:Program} {loose:List Str} {XP:(Str->Option Value)->Heap->Prop} {YP:World->Heap->Prop} {d:DefRec} {K:Params->PySem.W.Frag} {CX:World->CXT} {ps:List Str} {sp:World->Sp}
  (hwell:r.wellSaid=true) (hdf:d.params.defaults=[]) (hlen:r.args.length=ps.length) (hr:Room k callerA)
  (hY:∀ (w:World) (h:Heap),YP w h->(K w.params).In h)
  (F:∀ (w:World) (mg:Str->Option Value) (fa:Addr) (h:Heap),YP w h->(K w.params).In h->h.Ns mainGlobals mg->mg d.name=some (.ref fa) ->
   ∃ fd:FuncData,(∀ (s:Shared) (us:List Value),us.length=ps.length->BindsTo s fd ⟨us,[]⟩ (ps.zip us)) /\
    ∀ base:Heap,(K w.params).In base->base.Ns mainGlobals mg->FnOk r.prog w (K w.params) mg base (CX w) k fa fd ps (sp w))
  (hsp:∀ (w:World) (H:Hp) (xs:List V) (a:Codec.denoteAll r.args),OnlyF H->Codec.withinAll r.args a=true->Codec.app r.args r.asked a=true->DwAll (K w.params) H xs (Codec.encAll r.args a) ->
   sp w xs H (fun v H'=>Dw (K w.params) H' v (r.ret.enc (Codec.app r.args r.f a))) fun _ _ _=>False)
  (hCX:∀ (w:World) (H:Hp) (s:Shared) (e:Value) (s':Shared),CX w [] H s (fun _ _ _=>False) e s'->False) :
  PySem.W.WalkOS q loose XP YP r d [] (fun f vs=>PySem.call f vs):=by
 intro w s_0 s₁ mg mb G Y fa o pm cd doc dV kV ho hd hcd hD hmg hg args vals as hpre hlay hrd hwl hlo
 obtain ⟨a,e1,e2⟩:=PySem.W.os_pre_some hpre
 obtain ⟨e3,hwi⟩:=Codec.encAll_of_decAll r.args args a e1
 subst e3
 have KX:=hY w _ Y
 obtain ⟨fd,hb,hF⟩:=F w mg fa _ Y KX G.T.g hmg
 refine PySem.W.enter_call (codeAny_mono (spec_call (R:=[]) (cl:=classAt s_0.heap) (d0:=r.ret.enc (Codec.app r.args r.f a)) KX G.T.g G.T.b G.T.builtins G.T.nolimit hg hwl (pl_encAll _ _) (layable_weight hlay) hr hF hb (by rw [encAll_len]; exact hlen)
  (fun H xs hO hS=>hsp w H xs a hO hwi e2 hS) fun H e s'=>hCX w H s₁ e s') fun r' s' hq=>?_)
 obtain ⟨u,as',rfl,h1,h2,h3,h4⟩:=hq
 exact ⟨.inl ⟨u,_,as',rfl,fun _=>rfl,h1,(OpenSpec.post_iff hwell hwi _ _).mpr rfl,fun z=>Bool.noConfusion (show false=true from z)⟩,h2,h3,h4⟩
theorem walk_specK {r:OpenSpec} {k:Nat} {q:Program} {loose:List Str} {XP:(Str->Option Value)->Heap->Prop} {YP:World->Heap->Prop} {d:DefRec} {K:Params->PySem.W.Frag} {CX:CXT} {ps:List Str} {sp:PySem.W.Frag->Sp}
  (hwell:r.wellSaid=true) (hdf:d.params.defaults=[]) (hlen:r.args.length=ps.length) (hr:Room k callerA)
  (hY:∀ (w:World) (h:Heap),YP w h->(K w.params).In h)
  (F:∀ (w:World) (mg:Str->Option Value) (fa:Addr) (h:Heap),YP w h->(K w.params).In h->h.Ns mainGlobals mg->mg d.name=some (.ref fa) ->
   ∃ fd:FuncData,(∀ (s:Shared) (us:List Value),us.length=ps.length->BindsTo s fd ⟨us,[]⟩ (ps.zip us)) /\
    ∀ base:Heap,(K w.params).In base->base.Ns mainGlobals mg->FnOk r.prog w (K w.params) mg base CX k fa fd ps (sp (K w.params)))
  (hsp:∀ (K:PySem.W.Frag) (H:Hp) (xs:List V) (a:Codec.denoteAll r.args),OnlyF H->Codec.withinAll r.args a=true->Codec.app r.args r.asked a=true->DwAll K H xs (Codec.encAll r.args a) ->
   sp K xs H (fun v H'=>Dw K H' v (r.ret.enc (Codec.app r.args r.f a))) fun _ _ _=>False)
  (hCX:∀ (H:Hp) (s:Shared) (e:Value) (s':Shared),CX [] H s (fun _ _ _=>False) e s'->False) :
  PySem.W.WalkOS q loose XP YP r d [] (fun f vs=>PySem.call f vs) :=
 walk_spec (K:=K) (CX:=fun _=>CX) (sp:=fun w=>sp (K w.params)) hwell hdf hlen hr hY F (fun w H xs a h1 h2 h3 h4=>hsp (K w.params) H xs a h1 h2 h3 h4) fun _ H s e s'=>hCX H s e s'
end L2
namespace Ma
open Sc25
theorem qm {ε α β:Type} {r:Except ε α} {f g:α->Except ε β} (h:∀ x,r=.ok x->f x=g x):r.bind f=r.bind g:=by
 cases r with
 | error e=>rfl
 | ok x=>exact h x rfl
theorem jB {ε α β:Type} (r:Except ε α) (f:α->β):r.map f=r.bind fun x=>.ok (f x):=by cases r <;> rfl
theorem bind_assoc {ε α β γ:Type} (r:Except ε α) (f:α->Except ε β) (g:β->Except ε γ):(r.bind f).bind g=r.bind fun x=>(f x).bind g:=by cases r <;> rfl
theorem qkb {ε α β:Type} (x:α) (f:α->Except ε β):(Except.ok x).bind f=f x:=rfl
theorem qb {ε α β:Type} {r:Except ε α} {f:α->Except ε β} {y:β} (h:r.bind f=.ok y):∃ x,r=.ok x/\f x=.ok y:=by
 cases r with
 | error e=>cases h
 | ok x=>exact ⟨x,rfl,h⟩
theorem qj {ε α β:Type} {r:Except ε α} {f:α->β} {y:β} (h:r.map f=.ok y):∃ x,r=.ok x/\f x=y:=by
 cases r with
 | error e=>cases h
 | ok x=>exact ⟨x,rfl,by injection h⟩
theorem qmM {α:Type} (t:Toks):∃ b,(fail t:Read α)=.error b:=by
 match t with
 | []=>exact ⟨_,rfl⟩
 | (k,p) :: r=>cases k <;> exact ⟨_,rfl⟩
theorem qO {α:Type} {t:Toks} {x:α}:(fail t:Read α)≠.ok x:=by
 obtain ⟨b,h⟩:=qmM (α:=α) t
 rw [h]; intro q; cases q
theorem qbq {s:String} {t:Toks} (h:is_ s t=true):∃ p r,t=(.sign (ascii s),p) :: r:=by
 match t,h with
 | (.sign b,p) :: r,h=>exact ⟨p,r,by rw [of_decide_eq_true h]⟩
theorem qkC {s:String} {t:Toks} (h:isKey s t=true):∃ p r,t=(.name (ascii s),p) :: r:=by
 match t,h with
 | (.name b,p) :: r,h=>exact ⟨p,r,by rw [of_decide_eq_true h]⟩
theorem zJ {s:String} {t:Toks} (h:is_ s t=true):(t.drop 1).length+1=t.length:=by
 obtain ⟨p,r,rfl⟩:=qbq h
 simp
theorem qnf {s:String} {t:Toks} (h:isKey s t=true):(t.drop 1).length+1=t.length:=by
 obtain ⟨p,r,rfl⟩:=qkC h
 simp
theorem qkh {s:String} {t r:Toks} (h:take_ s t=.ok r):is_ s t=true/\r=t.drop 1:=by
 unfold take_ at h
 split at h
 ·rename_i q; exact ⟨q,by injection h with h; exact h.symm⟩
 ·exact absurd h qO
theorem take_len {s:String} {t r:Toks} (h:take_ s t=.ok r):r.length+1=t.length:=by
 obtain ⟨h1,rfl⟩:=qkh h
 exact zJ h1
theorem qnB {s:String} {t r:Toks} (h:key s t=.ok r):isKey s t=true/\r=t.drop 1:=by
 unfold key at h
 split at h
 ·rename_i q; exact ⟨q,by injection h with h; exact h.symm⟩
 ·exact absurd h qO
theorem qeS {t:Toks} {x:(Nat×Bytes)×Toks} (h:aName t=.ok x):t=(.name x.1.2,x.1.1) :: x.2/\kept.contains x.1.2=false:=by
 match t with
 | []=>simp only [aName] at h; exact absurd h qO
 | (.name b,k) :: r =>
  simp only [aName] at h
  split at h
  ·exact absurd h qO
  ·rename_i q
   injection h with h
   subst h
   exact ⟨rfl,by simpa using q⟩
 | (.num _,_) :: _=>simp only [aName] at h; exact absurd h qO
 | (.sign _,_) :: _=>simp only [aName] at h; exact absurd h qO
 | (.long,_) :: _=>simp only [aName] at h; exact absurd h qO
 | (.bad,_) :: _=>simp only [aName] at h; exact absurd h qO
 | (.ended,_) :: _=>simp only [aName] at h; exact absurd h qO
theorem jV {t:Toks} {x:(Nat×Bytes)×Toks} (h:aName t=.ok x):x.2.length+1=t.length:=by
 rw [(qeS h).1]; simp
theorem qcC {k:Nat} {t:Toks} {o:Op} (h:opAt k t=some o):(t.drop 1).length+1=t.length:=by
 unfold opAt at h
 obtain ⟨a,ha,_⟩:=Option.map_eq_some_iff.mp h
 have:=List.find?_some ha
 rw [Bool.and_eq_true] at this
 exact zJ this.2
theorem lens:∀ (f:Nat),(∀ d k t x,expr f d k t=.ok x->x.2.length < t.length)/\(∀ d k a t x,more f d k a t=.ok x->x.2.length<=t.length)/\(∀ d t x,part f d t=.ok x->x.2.length < t.length)
 | 0=>⟨fun _ _ _ _ h=>absurd h (by rw [expr]; exact qO),fun _ _ _ _ _ h=>absurd h (by rw [more]; exact qO),fun _ _ _ h=>absurd h (by rw [part]; exact qO)⟩
 | f+1=>by
  obtain ⟨ie,im,ip⟩:=lens f
  refine ⟨fun d k t x h=>?_,fun d k a t x h=>?_,fun d t x h=>?_⟩
  ·rw [expr] at h
   split at h
   ·exact ip _ _ _ h
   ·obtain ⟨y,hy,h⟩:=qb h
    have h1:=ie _ _ _ _ hy
    have h2:=im _ _ _ _ _ h
    omega
  ·rw [more] at h
   split at h
   ·rename_i o ho
    obtain ⟨y,hy,h⟩:=qb h
    have h1:=ie _ _ _ _ hy
    have h2:=im _ _ _ _ _ h
    have h3:=qcC ho
    omega
   ·injection h with h; subst h; exact Nat.le_refl _
  ·unfold part at h
   split at h
   ·injection h with h; subst h; simp
   ·split at h
    ·rename_i hb
     have h3:=zJ hb
     split at h
     ·cases h
     ·obtain ⟨y,hy,rfl⟩:=qj h
      have h1:=ip _ _ _ hy
      show y.2.length < _
      omega
    ·split at h
     ·rename_i hb
      have h3:=zJ hb
      split at h
      ·cases h
      ·obtain ⟨y,hy,h⟩:=qb h
       obtain ⟨r,hr,rfl⟩:=qj h
       have h1:=ie _ _ _ _ hy
       have h2:=take_len hr
       show r.length < _
       omega
     ·obtain ⟨y,hy,h⟩:=qb h
      have h0:=jV hy
      split at h
      ·rename_i hb
       have h3:=zJ hb
       split at h
       ·cases h
       ·obtain ⟨z,hz,h⟩:=qb h
        obtain ⟨r,hr,rfl⟩:=qj h
        have h1:=ie _ _ _ _ hz
        have h2:=take_len hr
        show r.length < _
        omega
      ·injection h with h; subst h
       show y.2.length < _
       omega
theorem fuels:∀ (n:Nat),(∀ f g d k t,t.length<=n->k<=6->8 * t.length+(8-k)<=f->8 * t.length+(8-k)<=g->expr f d k t=expr g d k t) /\
  (∀ f g d k a t,t.length<=n->k<=5->8 * t.length+1<=f->8 * t.length+1<=g->more f d k a t=more g d k a t) /\
  (∀ f g d t,t.length<=n->8 * t.length+1<=f->8 * t.length+1<=g->part f d t=part g d t):=by
 intro n
 induction n using Nat.strongRecOn with
 | _ n ih =>
  have hm:∀ f g d k a t,t.length<=n->k<=5->8 * t.length+1<=f->8 * t.length+1<=g->more f d k a t=more g d k a t:=by
   intro f g d k a t hl hk hf hg
   obtain ⟨f,rfl⟩:∃ f',f=f' + 1:=⟨f-1,by omega⟩
   obtain ⟨g,rfl⟩:∃ g',g=g' + 1:=⟨g-1,by omega⟩
   rw [more,more]
   cases ho:opAt k t with
   | none=>rfl
   | some o =>
    have h3:=qcC ho
    obtain ⟨ie,im,ip⟩:=ih (t.drop 1).length (by omega)
    show (expr f d (k+1) (t.drop 1)).bind _=(expr g d (k+1) (t.drop 1)).bind _
    rw [ie f g d (k+1) (t.drop 1) (Nat.le_refl _) (by omega) (by omega) (by omega)]
    refine qm fun x hx=>?_
    have h4:=(lens g).1 _ _ _ _ hx
    exact im f g d k _ x.2 (by omega) hk (by omega) (by omega)
  have hp:∀ f g d t,t.length<=n->8 * t.length+1<=f->8 * t.length+1<=g->part f d t=part g d t:=by
   intro f g d t hl hf hg
   obtain ⟨f,rfl⟩:∃ f',f=f' + 1:=⟨f-1,by omega⟩
   obtain ⟨g,rfl⟩:∃ g',g=g' + 1:=⟨g-1,by omega⟩
   unfold part
   split
   ·rfl
   ·split
    ·rename_i hb
     have h3:=zJ hb
     obtain ⟨ie,im,ip⟩:=ih (t.drop 1).length (by omega)
     rw [ip f g (d-1) (t.drop 1) (Nat.le_refl _) (by omega) (by omega)]
    ·split
     ·rename_i hb
      have h3:=zJ hb
      obtain ⟨ie,im,ip⟩:=ih (t.drop 1).length (by omega)
      rw [ie f g (d-1) 0 (t.drop 1) (Nat.le_refl _) (by omega) (by omega) (by omega)]
     ·refine qm fun x hx=>?_
      have h0:=jV hx
      split
      ·rename_i hb
       have h3:=zJ hb
       obtain ⟨ie,im,ip⟩:=ih (x.2.drop 1).length (by omega)
       rw [ie f g (d-1) 0 (x.2.drop 1) (Nat.le_refl _) (by omega) (by omega) (by omega)]
      ·rfl
  refine ⟨?_,hm,hp⟩
  have he:∀ (j:Nat) f g d k t,j=6-k->t.length<=n->k<=6->8 * t.length+(8-k)<=f->8 * t.length+(8-k)<=g->expr f d k t=expr g d k t:=by
   intro j
   induction j with
   | zero =>
    intro f g d k t hj hl hk hf hg
    obtain ⟨f,rfl⟩:∃ f',f=f' + 1:=⟨f-1,by omega⟩
    obtain ⟨g,rfl⟩:∃ g',g=g' + 1:=⟨g-1,by omega⟩
    rw [expr,expr,if_pos (by omega),if_pos (by omega)]
    exact hp f g d t hl (by omega) (by omega)
   | succ j ihj =>
    intro f g d k t hj hl hk hf hg
    obtain ⟨f,rfl⟩:∃ f',f=f' + 1:=⟨f-1,by omega⟩
    obtain ⟨g,rfl⟩:∃ g',g=g' + 1:=⟨g-1,by omega⟩
    rw [expr,expr,if_neg (by omega),if_neg (by omega)]
    rw [ihj f g d (k+1) t (by omega) hl (by omega) (by omega) (by omega)]
    refine qm fun x hx=>?_
    have h4:=(lens g).1 _ _ _ _ hx
    exact hm f g d k _ x.2 (by omega) (by omega) (by omega) (by omega)
  exact fun f g d k t hl hk hf hg=>he _ f g d k t rfl hl hk hf hg
def E (d k:Nat) (t:Toks):Got Ex:=expr (8 * t.length+8) d k t
def M (d k:Nat) (a:Ex) (t:Toks):Got Ex:=more (8 * t.length+1) d k a t
def Pt (d:Nat) (t:Toks):Got Ex:=part (8 * t.length+1) d t
theorem qd6 {f d k:Nat} {t:Toks} (hk:k<=6) (h:8 * t.length+8<=f):expr f d k t=E d k t:=(fuels t.length).1 _ _ _ _ _ (Nat.le_refl _) hk (by omega) (by omega)
theorem qjc {f d k:Nat} {a:Ex} {t:Toks} (hk:k<=5) (h:8 * t.length+1<=f):more f d k a t=M d k a t:=(fuels t.length).2.1 _ _ _ _ _ _ (Nat.le_refl _) hk h (Nat.le_refl _)
theorem qjK {f d:Nat} {t:Toks} (h:8 * t.length+1<=f):part f d t=Pt d t:=(fuels t.length).2.2 _ _ _ _ (Nat.le_refl _) h (Nat.le_refl _)
theorem ex_E (d:Nat) (t:Toks):ex d t=E d 0 t:=qd6 (by omega) (by unfold fuel; omega)
theorem qnb {d k:Nat} {t:Toks} {x:Ex×Toks} (h:E d k t=.ok x):x.2.length < t.length:=(lens _).1 _ _ _ _ h
theorem qoE {d:Nat} {t:Toks}:E d 6 t=Pt d t:=by
 unfold E
 rw [show 8 * t.length+8=(8 * t.length+7)+1 from rfl,expr,if_pos (by omega)]
 exact qjK (by omega)
theorem E_eq {d k:Nat} {t:Toks} (hk:k<=5):E d k t=(E d (k+1) t).bind fun x=>M d k x.1 x.2:=by
 rw [<- qd6 (f:=8 * t.length+10) (t:=t) (k:=k) (by omega) (by omega),show 8 * t.length+10=(8 * t.length+9)+1 from rfl,expr,if_neg (by omega)]
 rw [qd6 (by omega) (by omega)]
 refine qm fun x hx=>?_
 have:=qnb hx
 exact qjc hk (by omega)
theorem qob {d k:Nat} {a:Ex} {t:Toks} {o:Op} (hk:k<=5) (ho:opAt k t=some o):M d k a t=(E d (k+1) (t.drop 1)).bind fun x=>M d k (.bin (placeOf t) o a x.1) x.2:=by
 rw [<- qjc (f:=8 * t.length+10) hk (by omega),show 8 * t.length+10=(8 * t.length+9)+1 from rfl,more,ho]
 have h3:=qcC ho
 show (expr _ d (k+1) (t.drop 1)).bind _=_
 rw [qd6 (by omega) (by omega)]
 refine qm fun x hx=>?_
 have:=qnb hx
 exact qjc hk (by omega)
theorem qn1 {d k:Nat} {a:Ex} {t:Toks} (ho:opAt k t=none):M d k a t=.ok (a,t):=by
 unfold M
 rw [show 8 * t.length+1=(8 * t.length)+1 from rfl,more,ho]
theorem qot {d n p:Nat} {r:Toks}:Pt d ((.num n,p) :: r)=.ok (.num n,r):=by
 unfold Pt
 rw [part]
theorem P_eq {d:Nat} {t:Toks} (hn:∀ n p r,t≠(.num n,p) :: r):Pt d t =
   if is_ "!" t=true then (if d=0 then .error .full else (Pt (d-1) (t.drop 1)).map fun x=>(.not_ x.1,x.2))
   else if is_ "(" t=true then (if d=0 then .error .full else (E (d-1) 0 (t.drop 1)).bind fun x=>(take_ ")" x.2).map fun r=>(x.1,r))
   else (aName t).bind fun x=>if is_ "[" x.2=true then (if d=0 then .error .full else (E (d-1) 0 (x.2.drop 1)).bind fun i=>(take_ "]" i.2).map fun r=>(.at_ x.1.1 x.1.2 i.1,r)) else .ok (.var x.1.1 x.1.2,x.2):=by
 rw [<- qjK (f:=8 * t.length+10) (by omega),show 8 * t.length+10=(8 * t.length+9)+1 from rfl]
 unfold part
 split
 ·rename_i n p r
  exact absurd rfl (hn n p r)
 ·split
  ·rename_i hb
   have h3:=zJ hb
   rw [qjK (by omega)]
  ·split
   ·rename_i hb
    have h3:=zJ hb
    rw [qd6 (by omega) (by omega)]
   ·refine qm fun x hx=>?_
    have h0:=jV hx
    split
    ·rename_i hb
     have h3:=zJ hb
     rw [qd6 (by omega) (by omega)]
    ·rfl
def opOf (t:Toks):Option (Nat×Op):=(operators.find? fun o=>is_ o.2.1 t).map fun o=>(o.1,o.2.2)
theorem qjX:∀ a ∈ operators,∀ b ∈ operators,ascii a.2.1=ascii b.2.1->a=b:=by decide +kernel
theorem qbL {k:Nat} {t:Toks} {o:Op}:opAt k t=some o↔opOf t=some (k,o):=by
 unfold opAt opOf
 constructor
 ·intro h
  obtain ⟨a,ha,rfl⟩:=Option.map_eq_some_iff.mp h
  have h1:=List.find?_some ha
  have h2:=List.mem_of_find?_eq_some ha
  rw [Bool.and_eq_true,decide_eq_true_eq] at h1
  obtain ⟨rfl,h1⟩:=h1
  obtain ⟨p,r,rfl⟩:=qbq h1
  cases hf:operators.find? (fun o=>is_ o.2.1 ((Tok.sign (ascii a.2.1),p) :: r)) with
  | none=>exact absurd h1 (by have:=List.find?_eq_none.mp hf a h2; simpa using this)
  | some b =>
   have hb1:=List.find?_some hf
   have hb2:=List.mem_of_find?_eq_some hf
   obtain ⟨p',r',e⟩:=qbq hb1
   injection e with e _
   injection e with e _
   injection e with e
   have:=qjX a h2 b hb2 e
   subst this
   rfl
 ·intro h
  obtain ⟨a,ha,e⟩:=Option.map_eq_some_iff.mp h
  have h1:=List.find?_some ha
  have h2:=List.mem_of_find?_eq_some ha
  injection e with e1 e2
  subst e1 e2
  obtain ⟨p,r,rfl⟩:=qbq h1
  cases hf:operators.find? (fun o=>decide (o.1=a.1) && is_ o.2.1 ((Tok.sign (ascii a.2.1),p) :: r)) with
  | none =>
   have:=List.find?_eq_none.mp hf a h2
   rw [h1] at this
   simp at this
  | some b =>
   have hb1:=List.find?_some hf
   have hb2:=List.mem_of_find?_eq_some hf
   rw [Bool.and_eq_true] at hb1
   obtain ⟨p',r',e⟩:=qbq hb1.2
   injection e with e _
   injection e with e _
   injection e with e
   have:=qjX a h2 b hb2 e
   subst this
   rfl
theorem qhJ {k s:Nat} {t:Toks} {o:Op} (h:opOf t=some (s,o)) (hk:k≠s):opAt k t=none:=by
 cases q:opAt k t with
 | none=>rfl
 | some o' =>
  rw [qbL,h] at q
  injection q with q
  injection q with q _
  exact absurd q.symm hk
theorem qdT {k:Nat} {t:Toks} (h:opOf t=none):opAt k t=none:=by
 cases q:opAt k t with
 | none=>rfl
 | some o'=>rw [qbL,h] at q; cases q
theorem qnK:∀ a ∈ operators,a.1<=5/\level a.2.2=a.1:=by decide +kernel
theorem qe7 {s:Nat} {o:Op} {t:Toks} (h:opOf t=some (s,o)):s<=5/\level o=s:=by
 obtain ⟨a,ha,e⟩:=Option.map_eq_some_iff.mp h
 have:=qnK a (List.mem_of_find?_eq_some ha)
 injection e with e1 e2
 subst e1 e2
 exact this
def C (d:Nat):Nat->Nat->Ex->Toks->Got Ex
 | _,0,e,t=>.ok (e,t)
 | lo,n+1,e,t=>(C d (lo+1) n e t).bind fun x=>M d lo x.1 x.2
theorem E_C {d:Nat} {t:Toks}:∀ {lo n:Nat},lo+n=6->E d lo t=(Pt d t).bind fun x=>C d lo n x.1 x.2
 | lo,0,h=>by
  have:lo=6:=by omega
  subst this
  rw [qoE]
  cases Pt d t <;> rfl
 | lo,n+1,h=>by
  rw [E_eq (by omega),E_C (lo:=lo+1) (n:=n) (by omega),bind_assoc]
  rfl
theorem VD {d:Nat} {e:Ex} {t:Toks}:∀ {lo n:Nat},(∀ k,lo<=k->k < lo+n->opAt k t=none)->C d lo n e t=.ok (e,t)
 | lo,0,_=>rfl
 | lo,n+1,h=>by
  rw [C,VD (lo:=lo+1) (n:=n) fun k h1 h2=>h k (by omega) (by omega),qkb]
  exact qn1 (h lo (Nat.le_refl _) (by omega))
theorem qet {d s:Nat} {o:Op} {e:Ex} {t:Toks} (hs:opOf t=some (s,o)):∀ {lo n:Nat},lo<=s->s < lo+n->C d lo n e t=C d lo (s+1-lo) e t
 | lo,0,h1,h2=>absurd h2 (by omega)
 | lo,n+1,h1,h2=>by
  by_cases q:s=lo
  ·subst q
   rw [show s+1-s=0+1 by omega,C,C,VD (lo:=s+1) (n:=n) fun k h3 h4=>qhJ hs (by omega)]
   rfl
  ·rw [show s+1-lo=(s+1-(lo+1))+1 by omega,C,C,qet hs (lo:=lo+1) (n:=n) (by omega) (by omega)]
theorem qjf {d s:Nat} {o:Op} {e:Ex} {t:Toks} (hs:opOf t=some (s,o)):∀ {m lo:Nat},lo+m=s->C d lo (m+1) e t=(E d (s+1) (t.drop 1)).bind fun x=>C d lo (m+1) (.bin (placeOf t) o e x.1) x.2
 | 0,lo,h=>by
  have:lo=s:=by omega
  subst this
  show M d lo e t=_
  rw [qob (qe7 hs).1 (qbL.mpr hs)]
  rfl
 | m+1,lo,h=>by
  rw [C,qjf hs (m:=m) (lo:=lo+1) (by omega),bind_assoc]
  rfl
abbrev Stk:=List (Op×Nat×Ex)
def R (d:Nat):Nat->Stk->Ex->Toks->Got Ex
 | hi,[],e,t=>C d 0 (hi+1) e t
 | hi,(o,p,a) :: st,e,t=>(C d (level o+1) (hi-level o) e t).bind fun x=>R d (level o) st (.bin p o a x.1) x.2
def Up:Stk->Prop
 | []=>True
 | [x]=>level x.1<=5
 | x :: y :: st=>level x.1<=5/\level y.1 < level x.1/\Up (y :: st)
theorem Up.tail {x:Op×Nat×Ex} {st:Stk} (h:Up (x :: st)):Up st:=by
 cases st with
 | nil=>trivial
 | cons y st=>exact h.2.2
theorem Up.lev {x:Op×Nat×Ex} {st:Stk} (h:Up (x :: st)):level x.1<=5:=by
 cases st with
 | nil=>exact h
 | cons y st=>exact h.1
def Below (t:Toks) (k:Nat):Prop:=∀ s o,opOf t=some (s,o)->s<=k
theorem qnA {d k:Nat} {st:Stk} {e:Ex} {t:Toks} (hk:k<=5) (hb:Below t k) (hu:∀ x ∈ st.head?,level x.1 < k):R d k st e t=R d 5 st e t:=by
 have noop:∀ {j},k < j->opAt j t=none:=fun {j} hj=>by
  cases q:opAt j t with
  | none=>rfl
  | some o=>exact absurd (hb _ _ (qbL.mp q)) (by omega)
 cases st with
 | nil =>
  show C d 0 (k+1) e t=C d 0 6 e t
  cases q:opOf t with
  | none=>rw [VD fun j _ _=>qdT q,VD fun j _ _=>qdT q]
  | some so =>
   obtain ⟨s,o⟩:=so
   have:=hb _ _ q
   rw [qet q (lo:=0) (n:=k+1) (by omega) (by omega),qet q (lo:=0) (n:=6) (by omega) (by omega)]
 | cons x st =>
  obtain ⟨o1,p,a⟩:=x
  have hx:level o1 < k:=hu _ rfl
  show (C d (level o1+1) (k-level o1) e t).bind _=(C d (level o1+1) (5-level o1) e t).bind _
  congr 1
  cases q:opOf t with
  | none=>rw [VD fun j _ _=>qdT q,VD fun j _ _=>qdT q]
  | some so =>
   obtain ⟨s,o⟩:=so
   have:=hb _ _ q
   by_cases hs:level o1+1<=s
   ·rw [qet q (lo:=level o1+1) (n:=k-level o1) (by omega) (by omega),qet q (lo:=level o1+1) (n:=5-level o1) (by omega) (by omega)]
   ·rw [VD fun j h1 _=>qhJ q (by omega),VD fun j h1 _=>qhJ q (by omega)]
theorem qm5 {d:Nat} {o:Op} {p:Nat} {a e:Ex} {st:Stk} {t:Toks} (hu:Up ((o,p,a) :: st)) (hb:Below t (level o)):R d 5 ((o,p,a) :: st) e t=R d 5 st (.bin p o a e) t:=by
 have h5:level o<=5:=hu.lev
 show (C d (level o+1) (5-level o) e t).bind _=_
 rw [VD fun j h1 _=>by
  cases q:opAt j t with
  | none=>rfl
  | some o'=>exact absurd (hb _ _ (qbL.mp q)) (by omega),qkb]
 refine qnA h5 hb fun x hx=>?_
 cases st with
 | nil=>cases hx
 | cons y st =>
  have:y=x:=Option.some.inj hx
  subst this
  exact hu.2.1
theorem qn8 {d s:Nat} {o:Op} {e:Ex} {st:Stk} {t:Toks} (hs:opOf t=some (s,o)) (hu:∀ x ∈ st.head?,level x.1 < s):R d 5 st e t=(Pt d (t.drop 1)).bind fun y=>R d 5 ((o,placeOf t,e) :: st) y.1 y.2:=by
 obtain ⟨h5,hl⟩:=qe7 hs
 have step:∀ y:Ex×Toks,R d 5 ((o,placeOf t,e) :: st) y.1 y.2=(C d (s+1) (5-s) y.1 y.2).bind fun x=>R d s st (.bin (placeOf t) o e x.1) x.2:=fun y=>by
  show (C d (level o+1) (5-level o) y.1 y.2).bind _=_
  rw [hl]
 have hE:E d (s+1) (t.drop 1)=(Pt d (t.drop 1)).bind fun x=>C d (s+1) (5-s) x.1 x.2:=E_C (by omega)
 simp only [step]
 rw [<- bind_assoc,<- hE]
 cases st with
 | nil =>
  show C d 0 6 e t=(E d (s+1) (t.drop 1)).bind fun x=>C d 0 (s+1) (.bin (placeOf t) o e x.1) x.2
  rw [qet hs (lo:=0) (n:=6) (by omega) (by omega),show s+1-0=s+1 by omega,qjf hs (m:=s) (lo:=0) (by omega)]
 | cons x st =>
  obtain ⟨o1,p,a⟩:=x
  have hx:level o1 < s:=hu _ rfl
  show (C d (level o1+1) (5-level o1) e t).bind _=(E d (s+1) (t.drop 1)).bind fun x=>(C d (level o1+1) (s-level o1) (.bin (placeOf t) o e x.1) x.2).bind _
  rw [qet hs (lo:=level o1+1) (n:=5-level o1) (by omega) (by omega),show s+1-(level o1+1)=(s-level o1-1)+1 by omega,qjf hs (m:=s-level o1-1) (lo:=level o1+1) (by omega),bind_assoc]
  rw [show s-level o1-1+1=s-level o1 by omega]
theorem qm8 {d:Nat} {e:Ex} {t:Toks} (h:opOf t=none):R d 5 [] e t=.ok (e,t):=VD fun j _ _=>qdT h
theorem qj1 {d:Nat} {t:Toks}:E d 0 t=(Pt d t).bind fun x=>R d 5 [] x.1 x.2:=E_C (lo:=0) (n:=6) rfl
end Ma
namespace Ma
open Sc25
theorem qlY {p:Nat->Bool}:∀ (b:Bytes),(b.takeWhile p).length<=b.length
 | []=>Nat.le_refl _
 | c :: r=>by
  rw [List.takeWhile_cons]
  split
  ·simp only [List.length_cons]; have:=qlY (p:=p) r; omega
  ·simp
theorem Ys {f k:Nat}:toksFrom f k []=[(.ended,k)]:=by cases f <;> rfl
theorem qnP:∀ (n:Nat) (f g k:Nat) (b:Bytes),b.length<=n->b.length < f->b.length < g->toksFrom f k b=toksFrom g k b:=by
 intro n
 induction n with
 | zero =>
  intro f g k b hn hf hg
  have:b=[]:=List.length_eq_zero_iff.mp (by omega)
  subst this
  rw [Ys,Ys]
 | succ n ih =>
  intro f g k b hn hf hg
  obtain ⟨f,rfl⟩:∃ f',f=f' + 1:=⟨f-1,by omega⟩
  obtain ⟨g,rfl⟩:∃ g',g=g' + 1:=⟨g-1,by omega⟩
  cases b with
  | nil=>rfl
  | cons c r =>
   simp only [List.length_cons] at hn hf hg
   simp only [toksFrom]
   split
   ·exact ih f g (k+1) r (by omega) (by omega) (by omega)
   ·split
    ·rename_i hc
     subst hc
     have:(List.takeWhile (fun x=>x != 10) (35 :: r)).length=(List.takeWhile (fun x=>x != 10) r).length+1:=by rw [List.takeWhile_cons]; simp
     have h2:=qlY (p:=fun x=>x != 10) r
     exact ih f g _ _ (by rw [List.length_drop,List.length_cons]; omega) (by rw [List.length_drop,List.length_cons]; omega) (by rw [List.length_drop,List.length_cons]; omega)
    ·split
     ·rename_i hc
      have:0 < (List.takeWhile isWord (c :: r)).length:=by
       rw [List.takeWhile_cons,if_pos (by unfold isWord; rw [hc]; rfl)]
       simp
      congr 1
      exact ih f g _ _ (by rw [List.length_drop,List.length_cons]; omega) (by rw [List.length_drop,List.length_cons]; omega) (by rw [List.length_drop,List.length_cons]; omega)
     ·split
      ·rename_i hc
       have:0 < (List.takeWhile isDigit (c :: r)).length:=by
        rw [List.takeWhile_cons,if_pos hc]
        simp
       congr 1
       exact ih f g _ _ (by rw [List.length_drop,List.length_cons]; omega) (by rw [List.length_drop,List.length_cons]; omega) (by rw [List.length_drop,List.length_cons]; omega)
      ·split
       ·rename_i s hs
        have hs2:=List.mem_of_find?_eq_some hs
        have:0 < s.length:=by
         have:∀ s ∈ signs,0 < s.length:=by decide +kernel
         exact this s hs2
        congr 1
        exact ih f g _ _ (by rw [List.length_drop,List.length_cons]; omega) (by rw [List.length_drop,List.length_cons]; omega) (by rw [List.length_drop,List.length_cons]; omega)
       ·rfl
def strm (b:Bytes) (k:Nat):Toks:=toksFrom (b.length-k+1) k (b.drop k)
theorem qiz (b:Bytes):toks b=strm b 0:=rfl
theorem qdR {b:Bytes} {k f:Nat} (h:b.length-k < f):toksFrom f k (b.drop k)=strm b k :=
 qnP _ _ _ _ _ (Nat.le_refl _) (by rw [List.length_drop]; exact h) (by rw [List.length_drop]; omega)
theorem qjo {b:Bytes} {k:Nat} (h:b.length<=k):strm b k=[(.ended,k)]:=by
 unfold strm
 rw [List.drop_eq_nil_of_le h,Ys]
theorem Q9 {b:Bytes} {k c:Nat} (h:b[k]?=some c):b.drop k=c :: b.drop (k+1):=by
 obtain ⟨h1,h2⟩:=List.getElem?_eq_some_iff.mp h
 rw [<- h2]
 exact List.drop_eq_getElem_cons h1
theorem Yh {b:Bytes} {k c:Nat} (h:b[k]?=some c):k < b.length:=(List.getElem?_eq_some_iff.mp h).1
theorem qkS {b:Bytes} {k c:Nat} (h:b[k]?=some c) (hc:isBlank c=true):strm b k=strm b (k+1):=by
 have:=Yh h
 unfold strm
 rw [Q9 h,toksFrom,if_pos hc]
 exact qdR (by omega)
def far (p:Nat->Bool) (b:Bytes) (k:Nat):Nat:=k+((b.drop k).takeWhile p).length
theorem Yu {p:Nat->Bool} {b:Bytes} {k c:Nat} (h:b[k]?=some c) (hp:p c=true):far p b k=far p b (k+1):=by
 unfold far
 rw [Q9 h,List.takeWhile_cons,if_pos hp,List.length_cons]
 omega
theorem qgW {p:Nat->Bool} {b:Bytes} {k c:Nat} (h:b[k]?=some c) (hp:p c=false):far p b k=k:=by
 unfold far
 rw [Q9 h,List.takeWhile_cons,if_neg (by rw [hp]; decide)]
 rfl
theorem qid {p:Nat->Bool} {b:Bytes} {k:Nat} (h:b[k]?=none):far p b k=k:=by
 unfold far
 rw [List.drop_eq_nil_of_le (List.getElem?_eq_none_iff.mp h)]
 rfl
theorem qhI {p:Nat->Bool} {b:Bytes} {k:Nat}:k<=far p b k:=by unfold far; omega
theorem qgT {p:Nat->Bool} {b:Bytes} {k:Nat}:(b.drop k).takeWhile p=(b.drop k).take (far p b k-k):=by
 unfold far
 rw [show k+((b.drop k).takeWhile p).length-k=((b.drop k).takeWhile p).length by omega]
 exact List.prefix_iff_eq_take.mp (List.takeWhile_prefix p)
theorem qlQ {b:Bytes} {k:Nat} (h:b[k]?=some 35):strm b k=strm b (far (fun x=>x != 10) b k):=by
 have:=Yh h
 unfold strm
 conv=>lhs; rw [Q9 h]
 rw [toksFrom,if_neg (by decide),if_pos rfl,<- Q9 h]
 show toksFrom (b.length-k) (k+_) _=_
 rw [List.drop_drop]
 have h1:far (fun x=>x != 10) b k=k+((b.drop k).takeWhile fun x=>x != 10).length:=rfl
 have h2:=Yu (p:=fun x=>x != 10) h (by decide)
 have h3:=qhI (p:=fun x=>x != 10) (b:=b) (k:=k+1)
 rw [<- h1]
 exact qdR (by omega)
theorem qlO {b:Bytes} {k c:Nat} (h:b[k]?=some c) (hb:isBlank c=false) (h35:c≠35) (hl:isLetter c=true) :
  strm b k=((if 31 < far isWord b k-k then Tok.long else Tok.name ((b.drop k).take (far isWord b k-k))),k) :: strm b (far isWord b k):=by
 have:=Yh h
 have h2:=Yu (p:=isWord) h (by unfold isWord; rw [hl]; rfl)
 have h3:=qhI (p:=isWord) (b:=b) (k:=k+1)
 have h1:far isWord b k-k=((b.drop k).takeWhile isWord).length:=by unfold far; omega
 conv=>lhs; unfold strm; rw [Q9 h]
 rw [toksFrom,if_neg (by rw [hb]; decide),if_neg h35,if_pos hl,<- Q9 h,<- qgT,h1]
 show _ :: _=_ :: _
 congr 1
 rw [List.drop_drop]
 show toksFrom _ (far isWord b k) _=_
 exact qdR (by omega)
theorem qmm {b:Bytes} {k c:Nat} (h:b[k]?=some c) (hb:isBlank c=false) (h35:c≠35) (hl:isLetter c=false) (hd:isDigit c=true) :
  strm b k=((if W<=valueOf ((b.drop k).take (far isDigit b k-k)) then Tok.long else Tok.num (valueOf ((b.drop k).take (far isDigit b k-k)))),k) :: strm b (far isDigit b k):=by
 have:=Yh h
 have h2:=Yu (p:=isDigit) h hd
 have h3:=qhI (p:=isDigit) (b:=b) (k:=k+1)
 conv=>lhs; unfold strm; rw [Q9 h]
 rw [toksFrom,if_neg (by rw [hb]; decide),if_neg h35,if_neg (by rw [hl]; decide),if_pos hd,<- Q9 h,<- qgT]
 show _ :: _=_ :: _
 congr 1
 rw [List.drop_drop]
 show toksFrom _ (far isDigit b k) _=_
 exact qdR (by omega)
def Kg (c:Nat) (x y:Option Nat):Option Bytes :=
 if (c=33\/c=43\/c=45\/c=60\/c=94)/\x=some 61 then (if c=60/\y=some 62 then some [60,61,62] else some [c,61])
 else if c=33\/c=37\/c=38\/c=40\/c=41\/c=42\/c=43\/c=44\/c=45\/c=47\/c=59\/c=60\/c=61\/c=91\/c=93\/c=94\/c=123\/c=124\/c=125 then some [c] else none
theorem qfq:signs=[[60,61,62],[43,61],[45,61],[94,61],[60,61],[33,61],[123],[125],[40],[41],[91],[93],[44],[59],[61],[60],[43],[45],[42],[47],[37],[38],[124],[94],[33]]:=by decide +kernel
def pre (c:Nat) (bx by_:Bool):Bytes->Bool
 | [a]=>a == c
 | [a,_]=>a == c && bx
 | [a,_,_]=>a == c && (bx && by_)
 | _=>false
def okS:Bytes->Bool
 | [_]=>true
 | [_,61]=>true
 | [_,61,62]=>true
 | _=>false
theorem qn2 {c:Nat} {r:Bytes}:∀ {s:Bytes},okS s=true->s.isPrefixOf (c :: r)=pre c (r[0]? == some 61) (r[1]? == some 62) s
 | [a],_=>by simp only [List.isPrefixOf,pre,Bool.and_true]
 | [a,x],h=>by
  obtain rfl:x=61:=by
   unfold okS at h; split at h <;> simp_all
  match r with
  | []=>simp [List.isPrefixOf,pre]
  | y :: r=>simp [List.isPrefixOf,pre,Bool.beq_comm]
 | [a,x,z],h=>by
  obtain ⟨rfl,rfl⟩:x=61/\z=62:=by
   unfold okS at h; split at h <;> simp_all
  match r with
  | []=>simp [List.isPrefixOf,pre]
  | [y]=>simp [List.isPrefixOf,pre]
  | y :: v :: r=>simp [List.isPrefixOf,pre,Bool.beq_comm]
 | _ :: _ :: _ :: _ :: _,h=>by unfold okS at h; split at h <;> simp_all
theorem qhh {p q:Bytes->Bool}:∀ {l:List Bytes},(∀ s ∈ l,p s=q s)->l.find? p=l.find? q
 | [],_=>rfl
 | s :: l,h=>by
  rw [List.find?_cons,List.find?_cons,h s List.mem_cons_self,qhh fun t ht=>h t (List.mem_cons_of_mem _ ht)]
def qar (b:Bool) (n:Nat):Option Nat:=if b=true then some n else none
theorem qmo (c:Nat) (x y:Option Nat):Kg c x y=Kg c (qar (x == some 61) 61) (qar (y == some 62) 62):=by
 have e:∀ (z:Option Nat) (n:Nat),(z=some n)=(qar (z == some n) n=some n):=fun z n=>by
  unfold qar
  by_cases h:z=some n
  ·simp [h]
  ·simp [h]
 unfold Kg
 simp only [<- e]
theorem qkN:∀ c < 126,∀ bx by_:Bool,signs.find? (pre c bx by_)=Kg c (qar bx 61) (qar by_ 62):=by
 rw [qfq]
 decide +kernel
theorem ql3 (c:Nat) (r:Bytes):(signs.find? fun s=>s.isPrefixOf (c :: r))=Kg c r[0]? r[1]?:=by
 rw [qhh (q:=pre c (r[0]? == some 61) (r[1]? == some 62)) fun s hs=>qn2 (List.all_eq_true.mp (show signs.all okS=true by rw [qfq]; decide) s hs),qmo]
 by_cases hc:c < 126
 ·exact qkN c hc _ _
 ·have h2:Kg c (qar (r[0]? == some 61) 61) (qar (r[1]? == some 62) 62)=none:=by
   unfold Kg
   rw [if_neg (by omega),if_neg (by omega)]
  rw [h2]
  refine List.find?_eq_none.mpr fun s hs q=>?_
  have hb:s.headD 0 < 126:=of_decide_eq_true (List.all_eq_true.mp (show signs.all (fun s=>decide (s.headD 0 < 126))=true by rw [qfq]; decide) s hs)
  have:s.headD 0=c:=by
   match s,q with
   | [a],q=>exact beq_iff_eq.mp q
   | [a,_],q=>exact beq_iff_eq.mp (Bool.and_eq_true_iff.mp q).1
   | [a,_,_],q=>exact beq_iff_eq.mp (Bool.and_eq_true_iff.mp q).1
  omega
theorem qif {b:Bytes} {k c:Nat} (h:b[k]?=some c) (hb:isBlank c=false) (h35:c≠35) (hl:isLetter c=false) (hd:isDigit c=false) :
  strm b k=match Kg c b[k+1]? b[k+2]? with
   | some s=>(.sign s,k) :: strm b (k+s.length)
   | none=>[(.bad,k)]:=by
 have:=Yh h
 have e0:(b.drop (k+1))[0]?=b[k+1]?:=by rw [List.getElem?_drop]
 have e1:(b.drop (k+1))[1]?=b[k+2]?:=by rw [List.getElem?_drop]
 rw [<- e0,<- e1,<- ql3]
 conv=>lhs; unfold strm; rw [Q9 h]
 rw [toksFrom,if_neg (by rw [hb]; decide),if_neg h35,if_neg (by rw [hl]; decide),if_neg (by rw [hd]; decide)]
 cases q:signs.find? fun s=>s.isPrefixOf (c :: b.drop (k+1)) with
 | none=>rfl
 | some s =>
  have:0 < s.length:=by
   have:∀ s ∈ signs,0 < s.length:=by decide +kernel
   exact this s (List.mem_of_find?_eq_some q)
  show _ :: _=_ :: _
  congr 1
  rw [<- Q9 h,List.drop_drop]
  exact qdR (by omega)
theorem qkT (w:Bytes) (c:Nat):valueOf (w++[c])=10 * valueOf w+(c-48):=by
 unfold valueOf
 rw [List.foldl_append]
 rfl
theorem qlV {b:Bytes} {k j c:Nat} (h:b[j]?=some c) (hk:k<=j):(b.drop k).take (j+1-k)=(b.drop k).take (j-k)++[c]:=by
 rw [show j+1-k=(j-k)+1 by omega,List.take_add_one,List.getElem?_drop,show k+(j-k)=j by omega,h]
 rfl
end Ma
namespace Ma
open Sc25
theorem qiB:∀ (l:List Nat) (x:Nat),(l.foldl min x=x\/l.foldl min x ∈ l)/\l.foldl min x<=x/\∀ y ∈ l,l.foldl min x<=y
 | [],x=>⟨.inl rfl,Nat.le_refl _,fun _ h=>nomatch h⟩
 | a :: r,x=>by
  obtain ⟨h1,h2,h3⟩:=qiB r (min x a)
  rw [List.foldl_cons]
  refine ⟨?_,Nat.le_trans h2 (Nat.min_le_left _ _),fun y hy=>?_⟩
  ·rcases h1 with h1 | h1
   ·rw [h1]
    rcases Nat.le_total x a with q | q
    ·rw [Nat.min_eq_left q]; exact .inl rfl
    ·rw [Nat.min_eq_right q]; exact .inr List.mem_cons_self
   ·exact .inr (List.mem_cons_of_mem _ h1)
  ·rcases List.mem_cons.mp hy with rfl | hy
   ·exact Nat.le_trans h2 (Nat.min_le_right _ _)
   ·exact h3 y hy
theorem qih {l:List Nat} {m:Nat}:least l=some m↔m ∈ l/\∀ y ∈ l,m<=y:=by
 cases l with
 | nil=>simp [least]
 | cons x r =>
  obtain ⟨h1,h2,h3⟩:=qiB r x
  have hm:r.foldl min x ∈ x :: r:=by
   rcases h1 with h1 | h1
   ·rw [h1]; exact List.mem_cons_self
   ·exact List.mem_cons_of_mem _ h1
  have hl:∀ y ∈ x :: r,r.foldl min x<=y:=fun y hy=>by
   rcases List.mem_cons.mp hy with rfl | hy
   ·exact h2
   ·exact h3 y hy
  constructor
  ·intro h
   have:r.foldl min x=m:=Option.some.inj h
   subst this
   exact ⟨hm,hl⟩
  ·rintro ⟨a,b⟩
   show some _=some _
   congr 1
   exact Nat.le_antisymm (hl m a) (b _ hm)
theorem qhu {l:List Nat}:least l=none↔l=[]:=by cases l <;> simp [least]
def Le (A B:List Nat):Prop:=(∀ x ∈ A,x ∈ B)/\∀ y ∈ B,∃ x ∈ A,x<=y
theorem Le.qbM {A B:List Nat} (h:∀ x,x ∈ A↔x ∈ B):Le A B:=⟨fun x hx=>(h x).mp hx,fun y hy=>⟨y,(h y).mpr hy,Nat.le_refl _⟩⟩
theorem Le.rfl {A:List Nat}:Le A A:=.qbM fun _=>Iff.rfl
theorem Le.append {A B A' B':List Nat} (h:Le A B) (h':Le A' B'):Le (A++A') (B++B'):=by
 refine ⟨fun x hx=>?_,fun y hy=>?_⟩
 ·rcases List.mem_append.mp hx with hx | hx
  ·exact List.mem_append_left _ (h.1 x hx)
  ·exact List.mem_append_right _ (h'.1 x hx)
 ·rcases List.mem_append.mp hy with hy | hy
  ·obtain ⟨x,hx,q⟩:=h.2 y hy
   exact ⟨x,List.mem_append_left _ hx,q⟩
  ·obtain ⟨x,hx,q⟩:=h'.2 y hy
   exact ⟨x,List.mem_append_right _ hx,q⟩
theorem Le.swap {A B C:List Nat} (h:Le A (B++C)):Le A (C++B) :=
 ⟨fun x hx=>by have:=h.1 x hx; rw [List.mem_append] at this ⊢; exact this.symm,fun y hy=>h.2 y (by rw [List.mem_append] at hy ⊢; exact hy.symm)⟩
theorem Le.flatMap {α:Type} {f g:α->List Nat}:∀ {l:List α},(∀ x ∈ l,Le (f x) (g x))->Le (l.flatMap f) (l.flatMap g)
 | [],_=>.rfl
 | a :: r,h=>by
  rw [List.flatMap_cons,List.flatMap_cons]
  exact (h a List.mem_cons_self).append (Le.flatMap fun x hx=>h x (List.mem_cons_of_mem _ hx))
theorem Le.trans {A B C:List Nat} (h:Le A B) (h':Le B C):Le A C :=
 ⟨fun x hx=>h'.1 x (h.1 x hx),fun z hz=>by
  obtain ⟨y,hy,q⟩:=h'.2 z hz
  obtain ⟨x,hx,q'⟩:=h.2 y hy
  exact ⟨x,hx,Nat.le_trans q' q⟩⟩
theorem Le.least {A B:List Nat} (h:Le A B):least A=least B:=by
 cases q:Sc25.least B with
 | none =>
  rw [qhu] at q
  subst q
  rw [qhu]
  cases A with
  | nil=>rfl
  | cons x r=>exact absurd (h.1 x List.mem_cons_self) (by simp)
 | some m =>
  obtain ⟨a,b⟩:=qih.mp q
  obtain ⟨x,hx,hq⟩:=h.2 m a
  have:x=m:=Nat.le_antisymm hq (b x (h.1 x hx))
  subst this
  exact qih.mpr ⟨hx,fun y hy=>b y (h.1 y hy)⟩
inductive PT where
 | nm (row:Bool) (p:Nat) (x:Bytes)
 | num (n:Nat)
 | op (o:Op) (p:Nat)
 | nt
def post:Ex->List PT
 | .num n=>[.num n]
 | .var p x=>[.nm false p x]
 | .at_ p x i=>post i++[.nm true p x]
 | .bin p o a b=>post a++(post b++[.op o p])
 | .not_ e=>post e++[.nt]
def postC (a:Cell):List PT:=match a.i with
 | none=>[.nm false a.p a.x]
 | some i=>post i++[.nm true a.p a.x]
def yP (s:Seen):PT->List Nat
 | .nm row p x=>if s.lookup x=some row then [] else [p]
 | _=>[]
def bads (s:Seen) (l:List PT):List Nat:=l.flatMap (yP s)
def Qn (no:List Bytes):PT->List Nat
 | .nm _ p x=>if no.contains x=true then [p] else []
 | _=>[]
def outs (no:List Bytes) (l:List PT):List Nat:=l.flatMap (Qn no)
theorem Z9 (s:Seen) (a b:List PT):bads s (a++b)=bads s a++bads s b:=List.flatMap_append
theorem VF (no:List Bytes) (a b:List PT):outs no (a++b)=outs no a++outs no b:=List.flatMap_append
theorem qam (s:Seen) (no:List Bytes) (e:Ex) (q:Nat):q ∈ wrongIn s no e↔q ∈ bads s (post e)\/q ∈ outs no (post e):=by
 induction e with
 | num n=>simp [wrongIn,post,bads,outs,yP,Qn]
 | var p x =>
  simp only [wrongIn,post,bads,outs,yP,Qn,List.flatMap_cons,List.flatMap_nil,List.append_nil]
  by_cases h1:s.lookup x=some false <;> by_cases h2:no.contains x=true <;> simp_all
 | at_ p x i ih =>
  simp only [wrongIn,post,Z9,VF,List.mem_append,ih]
  simp only [bads,outs,yP,Qn,List.flatMap_cons,List.flatMap_nil,List.append_nil]
  by_cases h1:s.lookup x=some true <;> by_cases h2:no.contains x=true <;> simp_all <;> grind
 | bin p o a b iha ihb =>
  simp only [wrongIn,post,Z9,VF,List.mem_append,iha,ihb]
  simp [bads,outs,yP,Qn]
  grind
 | not_ e ih =>
  simp only [wrongIn,post,Z9,VF,List.mem_append,ih]
  simp [bads,outs,yP,Qn]
theorem qms (l:List PT):outs [] l=[]:=by
 unfold outs
 rw [List.flatMap_eq_nil_iff]
 intro x _
 cases x <;> simp [Qn]
theorem qjQ (s:Seen) (e:Ex) (q:Nat):q ∈ wrongIn s [] e↔q ∈ bads s (post e):=by
 rw [qam,qms]; simp
def vX (s:Seen) (no:List Bytes) (a:Cell):List Nat:=bads s (postC a)++outs no (postC a).dropLast
theorem qaK (s:Seen) (no:List Bytes) (a:Cell) (q:Nat):q ∈ vX s no a↔q ∈ wrongCell s no a:=by
 obtain ⟨p,x,i⟩:=a
 cases i with
 | none =>
  simp only [vX,wrongCell,postC]
  simp [bads,outs,yP]
 | some i =>
  simp only [vX,wrongCell,postC,Z9,List.mem_append,qam,List.dropLast_concat]
  simp only [bads,yP,List.flatMap_cons,List.flatMap_nil,List.append_nil]
  grind
def tw:List Bytes->List (Nat×Bytes)->List Nat
 | _,[]=>[]
 | met,(p,x) :: r=>(if met.contains x=true then [p] else [])++tw (met++[x]) r
theorem qnq (l:List (Nat×Bytes)) (x:Bytes):(l.any fun z=>z.2 == x)=(l.map (·.2)).contains x:=by
 induction l with
 | nil=>rfl
 | cons a r ih=>simp only [List.any_cons,List.map_cons,List.contains_cons,ih]; rw [Bool.beq_comm]
theorem qit:∀ (r pre:List (Nat×Bytes)),((r.zipIdx pre.length).flatMap fun (y:(Nat×Bytes)×Nat)=>if (((pre++r).take y.2).any fun z=>z.2 == y.1.2)=true then [y.1.1] else [])=tw (pre.map (·.2)) r
 | [],_=>rfl
 | (p,x) :: r,pre=>by
  rw [List.zipIdx_cons,List.flatMap_cons,tw]
  congr 1
  ·show (if (((pre++(p,x) :: r).take pre.length).any fun z=>z.2 == x)=true then [p] else [])=_
   rw [List.take_left,qnq]
  ·have:=qit r (pre++[(p,x)])
   rw [List.length_append,List.length_singleton,List.append_assoc,List.map_append] at this
   exact this
theorem qch (l:List (Nat×Bytes)):twice l=tw [] l:=qit l []
theorem qjz:∀ {l:List (Nat×Bytes)} {met:List Bytes} {q:Nat},q ∈ tw met l->∃ y ∈ l,y.1=q
 | (p,x) :: r,met,q,h=>by
  rw [tw,List.mem_append] at h
  rcases h with h | h
  ·split at h
   ·exact ⟨(p,x),List.mem_cons_self,(show q=p by simpa using h).symm⟩
   ·simp at h
  ·obtain ⟨y,hy,e⟩:=qjz h
   exact ⟨y,List.mem_cons_of_mem _ hy,e⟩
def vV (s:Seen):List Bytes->List (Nat×Bytes)->List Decl->List Nat
 | met,(p,x) :: r,dc :: ds=>(if s.lookup x=some dc.row.isSome then [] else [p])++((if met.contains x=true then [p] else [])++vV s (met++[x]) r ds)
 | _,_,_=>[]
theorem qil (s:Seen):∀ (args:List (Nat×Bytes)) (ps:List Decl) (met:List Bytes) (q:Nat),ps.length=args.length ->
  (q ∈ vV s met args ps↔q ∈ ((ps.zip args).flatMap fun (y:Decl×Nat×Bytes)=>if s.lookup y.2.2=some y.1.row.isSome then [] else [y.2.1])\/q ∈ tw met args)
 | [],[],_,_,_=>by simp [vV,tw]
 | (p,x) :: r,dc :: ds,met,q,h=>by
  have ih:=qil s r ds (met++[x]) q (by simpa using h)
  simp only [vV,tw,List.mem_append,ih,List.zip_cons_cons,List.flatMap_cons]
  grind
 | [],_ :: _,_,_,h=>by simp at h
 | _ :: _,[],_,_,h=>by simp at h
def plE (e:Ex):List Nat:=(post e).flatMap fun x=>match x with
 | .nm _ p _=>[p]
 | _=>[]
theorem qnk {s:Seen} {e:Ex} {q:Nat} (h:q ∈ bads s (post e)):q ∈ plE e:=by
 unfold bads at h
 obtain ⟨x,hx,h⟩:=List.mem_flatMap.mp h
 refine List.mem_flatMap.mpr ⟨x,hx,?_⟩
 cases x with
 | nm row p y =>
  simp only [yP] at h
  split at h
  ·simp at h
  ·exact h
 | _=>exact h
theorem qnN {no:List Bytes} {e:Ex} {q:Nat} (h:q ∈ outs no (post e)):q ∈ plE e:=by
 unfold outs at h
 obtain ⟨x,hx,h⟩:=List.mem_flatMap.mp h
 refine List.mem_flatMap.mpr ⟨x,hx,?_⟩
 cases x with
 | nm row p y =>
  simp only [Qn] at h
  split at h
  ·exact h
  ·simp at h
 | _=>exact h
theorem wR {s:Seen} {no:List Bytes} {e:Ex} {q:Nat} (h:q ∈ wrongIn s no e):q ∈ plE e:=by
 rcases (qam s no e q).mp h with h | h
 ·exact qnk h
 ·exact qnN h
theorem qnH (n:Nat):plE (.num n)=[]:=rfl
theorem qnW (p:Nat) (x:Bytes):plE (.var p x)=[p]:=rfl
theorem qoh (p:Nat) (x:Bytes) (i:Ex):plE (.at_ p x i)=plE i++[p]:=by unfold plE; rw [post,List.flatMap_append]; rfl
theorem qnT (p:Nat) (o:Op) (a b:Ex):plE (.bin p o a b)=plE a++plE b:=by unfold plE; rw [post,List.flatMap_append,List.flatMap_append]; simp
theorem qnx (e:Ex):plE (.not_ e)=plE e:=by unfold plE; rw [post,List.flatMap_append]; simp
def plC (a:Cell):List Nat:=match a.i with
 | none=>[a.p]
 | some i=>plE i++[a.p]
theorem qci {s:Seen} {no:List Bytes} {a:Cell} {q:Nat} (h:q ∈ wrongCell s no a):q ∈ plC a:=by
 obtain ⟨p,x,i⟩:=a
 cases i with
 | none =>
  simp only [wrongCell] at h
  split at h
  ·simp at h
  ·exact h
 | some i =>
  simp only [wrongCell,List.mem_append] at h
  show q ∈ plE i++[p]
  rcases h with h | h
  ·split at h
   ·simp at h
   ·exact List.mem_append_right _ h
  ·exact List.mem_append_left _ (wR h)
def plS (pb:List St->List Nat):St->List Nat
 | .set a _ e=>plC a++plE e
 | .swap a b=>plC a++plC b
 | .if_ _ c a b _ d=>plE c++(pb a++(pb b++plE d))
 | .from_ _ c a b _ d=>plE c++(pb a++(pb b++plE d))
 | .call _ p _ args=>p :: args.map (·.1)
 | .local_ _ p _ e a _ d=>p :: (plE e++(pb a++plE d))
 | .skip=>[]
def plB:Nat->List St->List Nat
 | 0,_=>[]
 | f+1,l=>l.flatMap (plS (plB f))
theorem qjJ (P:Prog):∀ (f:Nat) (s:Seen) (l:List St) (q:Nat),q ∈ wrong P f s l->q ∈ plB f l
 | 0,_,_,_,h=>by simp [wrong] at h
 | f+1,s,l,q,h=>by
  rw [wrong] at h
  obtain ⟨x,hx,h⟩:=List.mem_flatMap.mp h
  refine List.mem_flatMap.mpr ⟨x,hx,?_⟩
  have ih:=qjJ P f
  cases x with
  | set a o e =>
   rcases List.mem_append.mp h with h | h
   ·exact List.mem_append_left _ (qci h)
   ·exact List.mem_append_right _ (wR h)
  | swap a b =>
   rcases List.mem_append.mp h with h | h
   ·exact List.mem_append_left _ (qci h)
   ·exact List.mem_append_right _ (qci h)
  | if_ p c a b k d =>
   simp only [List.mem_append] at h
   show q ∈ plE c++(plB f a++(plB f b++plE d))
   simp only [List.mem_append]
   rcases h with h | h | h | h
   ·exact .inl (wR h)
   ·exact .inr (.inl (ih _ _ _ h))
   ·exact .inr (.inr (.inl (ih _ _ _ h)))
   ·exact .inr (.inr (.inr (wR h)))
  | from_ p c a b k d =>
   simp only [List.mem_append] at h
   show q ∈ plE c++(plB f a++(plB f b++plE d))
   simp only [List.mem_append]
   rcases h with h | h | h | h
   ·exact .inl (wR h)
   ·exact .inr (.inl (ih _ _ _ h))
   ·exact .inr (.inr (.inl (ih _ _ _ h)))
   ·exact .inr (.inr (.inr (wR h)))
  | call un p g args =>
   show q ∈ p :: args.map (·.1)
   have two:∀ {q},q ∈ tw [] args->q ∈ p :: args.map (·.1):=fun h=>by
    obtain ⟨y,hy,rfl⟩:=qjz h
    exact List.mem_cons_of_mem _ (List.mem_map.mpr ⟨y,hy,rfl⟩)
   rcases List.mem_append.mp h with h | h
   ·split at h
    ·split at h
     ·obtain ⟨y,hy,h⟩:=List.mem_flatMap.mp h
      split at h
      ·simp at h
      ·have:q=y.2.1:=by simpa using h
       subst this
       exact List.mem_cons_of_mem _ (List.mem_map.mpr ⟨y.2,(List.of_mem_zip hy).2,rfl⟩)
     ·have:q=p:=by simpa using h
      subst this; exact List.mem_cons_self
    ·have:q=p:=by simpa using h
     subst this; exact List.mem_cons_self
   ·exact two (by rw [<- qch]; exact h)
  | local_ p k y e a r d =>
   simp only [List.mem_append] at h
   show q ∈ k :: (plE e++(plB f a++plE d))
   simp only [List.mem_cons,List.mem_append]
   rcases h with h | h | h | h
   ·exact .inr (.inl (wR h))
   ·split at h
    ·exact .inl (by simpa using h)
    ·simp at h
   ·exact .inr (.inr (.inl (ih _ _ _ h)))
   ·exact .inr (.inr (.inr (wR h)))
  | skip=>simp at h
def OkB:Nat->List St->Prop
 | 0,_=>True
 | f+1,l=>∀ x ∈ l,match x with
  | .if_ _ _ a b _ _=>OkB f a/\OkB f b
  | .from_ _ _ a b _ _=>OkB f a/\OkB f b
  | .call _ p _ args=>∀ y ∈ args,p < y.1
  | .local_ _ p _ e a _ d=>(∀ q ∈ plE e++(plB f a++plE d),p < q)/\OkB f a
  | _=>True
def bW (P:Prog):Nat->Seen->List St->List Nat
 | 0,_,_=>[]
 | f+1,s,l=>l.flatMap fun (x:St)=>match x with
  | .set a _ e=>vX s [a.x] a++(bads s (post e)++outs [a.x] (post e))
  | .swap a b=>vX s [a.x,b.x] a++vX s [a.x,b.x] b
  | .if_ _ c a b _ d=>bads s (post c)++(bW P f s a++(bW P f s b++bads s (post d)))
  | .from_ _ c a b _ d=>bads s (post c)++(bW P f s a++(bW P f s b++bads s (post d)))
  | .call _ p g args=>(match P.proc g with
    | some d=>if d.params.length=args.length then vV s [] args d.params else [p]
    | none=>[p])
  | .local_ _ p y e a _ d=>if (s.lookup y).isSome=true then [p] else bads s (post e)++(bads s (post d)++bW P f ((y,false) :: s) a)
  | .skip=>[]
theorem Le.wIn {s:Seen} {e:Ex}:Le (bads s (post e)) (wrongIn s [] e):=.qbM fun q=>(qjQ s e q).symm
theorem qkB (P:Prog):∀ (f:Nat) (s:Seen) (l:List St),OkB f l->Le (bW P f s l) (wrong P f s l)
 | 0,_,_,_=>by simp only [bW,wrong]; exact .rfl
 | f+1,s,l,h=>by
  rw [bW,wrong]
  refine Le.flatMap fun x hx=>?_
  have hx:=h x hx
  have ih:=qkB P f
  cases x with
  | set a o e=>exact (Le.qbM (qaK _ _ _)).append (Le.qbM fun q=>by rw [List.mem_append,qam])
  | swap a b=>exact (Le.qbM (qaK _ _ _)).append (Le.qbM (qaK _ _ _))
  | if_ p c a b k d=>exact Le.wIn.append ((ih s a hx.1).append ((ih s b hx.2).append Le.wIn))
  | from_ p c a b k d=>exact Le.wIn.append ((ih s a hx.1).append ((ih s b hx.2).append Le.wIn))
  | call un p g args =>
   have hx:∀ y ∈ args,p < y.1:=hx
   show Le (match P.proc g with
    | some d=>if d.params.length=args.length then vV s [] args d.params else [p]
    | none=>[p]) (_++twice args)
   rw [qch]
   have one:Le [p] ([p]++tw [] args):=⟨fun x hx=>List.mem_append_left _ hx,fun y hy=>⟨p,by simp,by
    rcases List.mem_append.mp hy with hy | hy
    ·have:y=p:=by simpa using hy
     omega
    ·obtain ⟨z,hz,rfl⟩:=qjz hy
     exact Nat.le_of_lt (hx z hz)⟩⟩
   cases P.proc g with
   | none=>exact one
   | some d =>
    by_cases hl:d.params.length=args.length
    ·simp only [hl,if_true]
     exact .qbM fun q=>by rw [qil s args d.params [] q hl,List.mem_append]
    ·simp only [hl,if_false]
     exact one
  | local_ p k y e a r d =>
   obtain ⟨h1,h2⟩:=(show (∀ q ∈ plE e++(plB f a++plE d),k < q)/\OkB f a from hx)
   show Le (if (s.lookup y).isSome=true then [k] else _) (wrongIn s [] e++((if (s.lookup y).isSome=true then [k] else [])++(wrong P f ((y,false) :: s) a++wrongIn s [] d)))
   by_cases hs:(s.lookup y).isSome=true
   ·rw [if_pos hs,if_pos hs]
    refine ⟨fun x hx=>by simp only [List.mem_append]; exact .inr (.inl hx),fun z hz=>⟨k,by simp,?_⟩⟩
    simp only [List.mem_append] at hz
    rcases hz with hz | hz | hz | hz
    ·exact Nat.le_of_lt (h1 z (List.mem_append_left _ (wR hz)))
    ·have:z=k:=by simpa using hz
     omega
    ·exact Nat.le_of_lt (h1 z (List.mem_append_right _ (List.mem_append_left _ (qjJ P f _ _ _ hz))))
    ·exact Nat.le_of_lt (h1 z (List.mem_append_right _ (List.mem_append_right _ (wR hz))))
   ·rw [if_neg hs,if_neg hs,List.nil_append]
    exact Le.wIn.append (((Le.wIn (s:=s) (e:=d)).append (ih ((y,false) :: s) a h2)).swap)
  | skip=>exact .rfl
def OkP (P:Prog):Prop:=OkB (DEEP+1) P.main/\∀ d ∈ P.procs,OkB (DEEP+1) d.body
def broken (P:Prog):List Nat:=tw [] (P.procs.map fun d=>(d.p,d.name))++((tw [] (P.globals.map fun d=>(d.p,d.x))++bW P (DEEP+1) (seen P.globals) P.main) ++
 P.procs.flatMap fun d=>tw [] (d.params.map fun y=>(y.p,y.x))++bW P (DEEP+1) (seen d.params) d.body)
theorem qlE {P:Prog} (h:OkP P):Le (broken P) (allWrong P):=by
 have A:Le (P.procs.flatMap fun d=>tw [] (d.params.map fun y=>(y.p,y.x))++bW P (DEEP+1) (seen d.params) d.body) (P.procs.flatMap fun d=>twice (d.params.map fun y=>(y.p,y.x))++wrong P (DEEP+1) (seen d.params) d.body) :=
  Le.flatMap fun d hd=>by rw [qch]; exact Le.rfl.append (qkB P _ _ _ (h.2 d hd))
 have B:=qkB P (DEEP+1) (seen P.globals) P.main h.1
 unfold broken allWrong
 rw [qch,qch]
 refine ⟨fun x hx=>?_,fun y hy=>?_⟩
 ·simp only [List.mem_append] at hx ⊢
  rcases hx with hx | (hx | hx) | hx
  ·exact .inr (.inl hx)
  ·exact .inl hx
  ·exact .inr (.inr (.inr (B.1 x hx)))
  ·exact .inr (.inr (.inl (A.1 x hx)))
 ·simp only [List.mem_append] at hy
  rcases hy with hy | hy | hy | hy
  ·exact ⟨y,by simp only [List.mem_append]; exact .inr (.inl (.inl hy)),Nat.le_refl _⟩
  ·exact ⟨y,by simp only [List.mem_append]; exact .inl hy,Nat.le_refl _⟩
  ·obtain ⟨x,hx,q⟩:=A.2 y hy
   exact ⟨x,by simp only [List.mem_append]; exact .inr (.inr hx),q⟩
  ·obtain ⟨x,hx,q⟩:=B.2 y hy
   exact ⟨x,by simp only [List.mem_append]; exact .inr (.inl (.inr hx)),q⟩
end Ma
namespace Ma
open Sc25
abbrev Srt (t:Toks):Prop:=t.Pairwise fun a b=>a.2 < b.2
theorem qln:∀ (f k:Nat) (b:Bytes),Srt (toksFrom f k b)/\∀ y ∈ toksFrom f k b,k<=y.2:=by
 intro f
 have one:∀ (x:Tok) (k:Nat),Srt [(x,k)]/\∀ y ∈ ([(x,k)]:Toks),k<=y.2:=fun x k=>⟨List.pairwise_singleton _ _,fun y hy=>by
  have:y=(x,k):=by simpa using hy
  subst this; exact Nat.le_refl _⟩
 have cons:∀ {x:Tok} {k j:Nat} {t:Toks},k < j->(Srt t/\∀ y ∈ t,j<=y.2)->(Srt ((x,k) :: t)/\∀ y ∈ (x,k) :: t,k<=y.2):=fun {x k j t} hk ⟨h1,h2⟩=>by
  refine ⟨List.pairwise_cons.mpr ⟨fun y hy=>Nat.lt_of_lt_of_le hk (h2 y hy),h1⟩,fun y hy=>?_⟩
  rcases List.mem_cons.mp hy with rfl | hy
  ·exact Nat.le_refl _
  ·have:=h2 y hy
   omega
 induction f with
 | zero=>intro k b; exact one _ _
 | succ f ih =>
  intro k b
  have up:∀ {j:Nat} {b:Bytes},k<=j->(Srt (toksFrom f j b)/\∀ y ∈ toksFrom f j b,k<=y.2):=fun {j b} h=>⟨(ih j b).1,fun y hy=>Nat.le_trans h ((ih j b).2 y hy)⟩
  cases b with
  | nil=>rw [Ys]; exact one _ _
  | cons c r =>
   simp only [toksFrom]
   split
   ·exact up (by omega)
   ·split
    ·exact up (by omega)
    ·split
     ·rename_i hc
      have:0 < (List.takeWhile isWord (c :: r)).length:=by
       rw [List.takeWhile_cons,if_pos (by unfold isWord; rw [hc]; rfl)]
       simp
      exact cons (by omega) (ih _ _)
     ·split
      ·rename_i hc
       have:0 < (List.takeWhile isDigit (c :: r)).length:=by
        rw [List.takeWhile_cons,if_pos hc]
        simp
       exact cons (by omega) (ih _ _)
      ·split
       ·rename_i s hs
        have:0 < s.length:=by
         have:∀ s ∈ signs,0 < s.length:=by decide +kernel
         exact this s (List.mem_of_find?_eq_some hs)
        exact cons (by omega) (ih _ _)
       ·exact one _ _
theorem qjT (b:Bytes):Srt (toks b):=(qln _ _ _).1
def Pls (t:Toks) (q:Nat):Prop:=∃ y ∈ t,y.2=q
theorem Pls.mono {t t':Toks} {q:Nat} (h:Pls t' q) (s:t' <:+ t):Pls t q:=let ⟨y,hy,e⟩:=h; ⟨y,s.subset hy,e⟩
theorem qz {t:Toks}:t.drop 1 <:+ t:=List.drop_suffix _ _
theorem jh {s:String} {t r:Toks} (h:take_ s t=.ok r):r <:+ t:=by rw [(qkh h).2]; exact qz
theorem ji {s:String} {t r:Toks} (h:key s t=.ok r):r <:+ t:=by rw [(qnB h).2]; exact qz
theorem ww {t:Toks} {x:(Nat×Bytes)×Toks} (h:aName t=.ok x):x.2 <:+ t:=by rw [(qeS h).1]; exact List.suffix_cons _ _
theorem Wj {t:Toks} {x:(Nat×Bytes)×Toks} (h:aName t=.ok x):Pls t x.1.1:=by
 rw [(qeS h).1]; exact ⟨_,List.mem_cons_self,rfl⟩
theorem qjj {t:Toks} {x:(Nat×Bytes)×Toks} (h:aName t=.ok x) (hs:Srt t) {q:Nat} (hq:Pls x.2 q):x.1.1 < q:=by
 rw [(qeS h).1] at hs
 obtain ⟨y,hy,rfl⟩:=hq
 exact (List.pairwise_cons.mp hs).1 y hy
theorem Srt.suf {t t':Toks} (h:Srt t) (s:t' <:+ t):Srt t':=List.Pairwise.sublist s.sublist h
theorem qnc:∀ (f:Nat),(∀ d k t x,expr f d k t=.ok x->x.2 <:+ t/\∀ q ∈ plE x.1,Pls t q)/\(∀ d k a t x (T:Toks),more f d k a t=.ok x->t <:+ T->(∀ q ∈ plE a,Pls T q)->x.2 <:+ t/\∀ q ∈ plE x.1,Pls T q)/\(∀ d t x,part f d t=.ok x->x.2 <:+ t/\∀ q ∈ plE x.1,Pls t q)
 | 0=>⟨fun _ _ _ _ h=>absurd h (by rw [expr]; exact qO),fun _ _ _ _ _ _ h=>absurd h (by rw [more]; exact qO),fun _ _ _ h=>absurd h (by rw [part]; exact qO)⟩
 | f+1=>by
  obtain ⟨ie,im,ip⟩:=qnc f
  refine ⟨fun d k t x h=>?_,fun d k a t x T h hT ha=>?_,fun d t x h=>?_⟩
  ·rw [expr] at h
   split at h
   ·exact ip _ _ _ h
   ·obtain ⟨y,hy,h⟩:=qb h
    obtain ⟨s1,p1⟩:=ie _ _ _ _ hy
    obtain ⟨s2,p2⟩:=im _ _ _ _ _ t h s1 p1
    exact ⟨s2.trans s1,p2⟩
  ·rw [more] at h
   split at h
   ·obtain ⟨y,hy,h⟩:=qb h
    obtain ⟨s1,p1⟩:=ie _ _ _ _ hy
    have s3:=s1.trans qz
    obtain ⟨s2,p2⟩:=im _ _ _ _ _ T h (s3.trans hT) (fun q hq=>by
     rw [qnT,List.mem_append] at hq
     rcases hq with hq | hq
     ·exact ha q hq
     ·exact ((p1 q hq).mono qz).mono hT)
    exact ⟨s2.trans s3,p2⟩
   ·injection h with h; subst h; exact ⟨List.suffix_refl _,ha⟩
  ·unfold part at h
   split at h
   ·injection h with h; subst h; exact ⟨List.suffix_cons _ _,fun q hq=>by rw [qnH] at hq; cases hq⟩
   ·split at h
    ·split at h
     ·cases h
     ·obtain ⟨y,hy,rfl⟩:=qj h
      obtain ⟨s1,p1⟩:=ip _ _ _ hy
      exact ⟨s1.trans qz,fun q hq=>(p1 q (by rw [qnx] at hq; exact hq)).mono qz⟩
    ·split at h
     ·split at h
      ·cases h
      ·obtain ⟨y,hy,h⟩:=qb h
       obtain ⟨r,hr,rfl⟩:=qj h
       obtain ⟨s1,p1⟩:=ie _ _ _ _ hy
       exact ⟨((jh hr).trans s1).trans qz,fun q hq=>(p1 q hq).mono qz⟩
     ·obtain ⟨y,hy,h⟩:=qb h
      have s0:=ww hy
      split at h
      ·split at h
       ·cases h
       ·obtain ⟨z,hz,h⟩:=qb h
        obtain ⟨r,hr,rfl⟩:=qj h
        obtain ⟨s1,p1⟩:=ie _ _ _ _ hz
        refine ⟨(((jh hr).trans s1).trans qz).trans s0,fun q hq=>?_⟩
        rw [qoh,List.mem_append] at hq
        rcases hq with hq | hq
        ·exact ((p1 q hq).mono qz).mono s0
        ·have:q=y.1.1:=by simpa using hq
         subst this; exact Wj hy
      ·injection h with h; subst h
       exact ⟨s0,fun q hq=>by
        rw [qnW] at hq
        have:q=y.1.1:=by simpa using hq
        subst this; exact Wj hy⟩
theorem j8 {d:Nat} {t:Toks} {x:Ex×Toks} (h:ex d t=.ok x):x.2 <:+ t/\∀ q ∈ plE x.1,Pls t q:=(qnc _).1 _ _ _ _ h
theorem qfc {d:Nat} {t:Toks} {x:Cell×Toks} (h:cell d t=.ok x):x.2 <:+ t/\∀ q ∈ plC x.1,Pls t q:=by
 unfold cell at h
 obtain ⟨y,hy,h⟩:=qb h
 have s0:=ww hy
 split at h
 ·split at h
  ·cases h
  ·obtain ⟨z,hz,h⟩:=qb h
   obtain ⟨r,hr,rfl⟩:=qj h
   obtain ⟨s1,p1⟩:=j8 hz
   refine ⟨(((jh hr).trans s1).trans qz).trans s0,fun q hq=>?_⟩
   have hq:q ∈ plE z.1++[y.1.1]:=hq
   rcases List.mem_append.mp hq with hq | hq
   ·exact ((p1 q hq).mono qz).mono s0
   ·have:q=y.1.1:=by simpa using hq
    subst this; exact Wj hy
 ·injection h with h; subst h
  refine ⟨s0,fun q hq=>?_⟩
  have hq:q ∈ [y.1.1]:=hq
  have:q=y.1.1:=by simpa using hq
  subst this; exact Wj hy
theorem qiE:∀ (f:Nat) (t:Toks) (x:List (Nat×Bytes)×Toks),names f t=.ok x->x.2 <:+ t/\∀ y ∈ x.1,Pls t y.1
 | 0,_,_,h=>absurd h (by rw [names]; exact qO)
 | f+1,t,x,h=>by
  rw [names] at h
  obtain ⟨y,hy,h⟩:=qb h
  have s0:=ww hy
  split at h
  ·obtain ⟨z,hz,rfl⟩:=qj h
   obtain ⟨s1,p1⟩:=qiE f _ _ hz
   refine ⟨(s1.trans qz).trans s0,fun w hw=>?_⟩
   rcases List.mem_cons.mp hw with rfl | hw
   ·exact Wj hy
   ·exact ((p1 w hw).mono qz).mono s0
  ·injection h with h; subst h
   refine ⟨s0,fun w hw=>?_⟩
   have:w=y.1:=by simpa using hw
   subst this; exact Wj hy
theorem qjp {t:Toks} {x:List (Nat×Bytes)×Toks} (h:argsAt t=.ok x):x.2 <:+ t/\∀ y ∈ x.1,Pls t y.1:=by
 unfold argsAt at h
 obtain ⟨u,hu,h⟩:=qb h
 have s0:=jh hu
 split at h
 ·injection h with h; subst h
  exact ⟨qz.trans s0,fun y hy=>nomatch hy⟩
 ·obtain ⟨y,hy,h⟩:=qb h
  obtain ⟨r,hr,rfl⟩:=qj h
  obtain ⟨s1,p1⟩:=qiE _ _ _ hy
  exact ⟨((jh hr).trans s1).trans s0,fun y hy=>(p1 y hy).mono s0⟩
def Fine (t:Toks) (l:List St):Prop:=(∀ n,∀ q ∈ plB n l,Pls t q)/\(Srt t->∀ n,OkB n l)
theorem Fine.mono {t t':Toks} {l:List St} (h:Fine t' l) (s:t' <:+ t):Fine t l:=⟨fun n q hq=>(h.1 n q hq).mono s,fun hs=>h.2 (hs.suf s)⟩
theorem Fine.nil {t:Toks}:Fine t []:=⟨fun n q hq=>by cases n <;> simp [plB] at hq,fun _ n=>by cases n with | zero=>trivial | succ n=>exact fun x hx=>nomatch hx⟩
theorem Fine.cons {t:Toks} {x:St} {l:List St} (h:Fine t [x]) (h':Fine t l):Fine t (x :: l):=by
 refine ⟨fun n q hq=>?_,fun hs n=>?_⟩
 ·cases n with
  | zero=>simp [plB] at hq
  | succ n =>
   rw [plB,List.flatMap_cons,List.mem_append] at hq
   rcases hq with hq | hq
   ·exact h.1 (n+1) q (by rw [plB,List.flatMap_cons,List.mem_append]; exact .inl hq)
   ·exact h'.1 (n+1) q hq
 ·cases n with
  | zero=>trivial
  | succ n =>
   intro y hy
   rcases List.mem_cons.mp hy with rfl | hy
   ·exact h.2 hs (n+1) y (by simp)
   ·exact h'.2 hs (n+1) y hy
theorem Fine.one {t:Toks} {x:St} (h1:∀ n,∀ q ∈ plS (plB n) x,Pls t q) (h2:Srt t->∀ n,OkB (n+1) [x]):Fine t [x]:=by
 refine ⟨fun n q hq=>?_,fun hs n=>?_⟩
 ·cases n with
  | zero=>simp [plB] at hq
  | succ n =>
   rw [plB] at hq
   simp only [List.flatMap_cons,List.flatMap_nil,List.append_nil] at hq
   exact h1 n q hq
 ·cases n with
  | zero=>trivial
  | succ n=>exact h2 hs n
theorem qhG {f:Nat} {un:Bool} {p q:Nat} {c d:Ex} {a b:List St} {t:Toks} (hc:∀ q ∈ plE c,Pls t q) (ha:Fine t a) (hb:Fine t b) (hd:∀ q ∈ plE d,Pls t q) :
  Fine t [.if_ p c a b q d]/\Fine t [.from_ p c a b q d]:=by
 have pl:∀ n,∀ q ∈ plE c++(plB n a++(plB n b++plE d)),Pls t q:=fun n q hq=>by
  simp only [List.mem_append] at hq
  rcases hq with hq | hq | hq | hq
  ·exact hc q hq
  ·exact ha.1 n q hq
  ·exact hb.1 n q hq
  ·exact hd q hq
 exact ⟨.one pl fun hs n y hy=>by
   have:y=.if_ p c a b q d:=by simpa using hy
   subst this; exact ⟨ha.2 hs n,hb.2 hs n⟩,.one pl fun hs n y hy=>by
   have:y=.from_ p c a b q d:=by simpa using hy
   subst this; exact ⟨ha.2 hs n,hb.2 hs n⟩⟩
theorem qmF {t:Toks} {a:Cell} {o:Change} {e:Ex} (ha:∀ q ∈ plC a,Pls t q) (he:∀ q ∈ plE e,Pls t q):Fine t [.set a o e] :=
 .one (fun n q hq=>by
  rcases List.mem_append.mp (show q ∈ plC a++plE e from hq) with hq | hq
  ·exact ha q hq
  ·exact he q hq) fun _ n y hy=>by
  have:y=.set a o e:=by simpa using hy
  subst this; trivial
theorem vf:∀ (f:Nat),(∀ d t x,statement f d t=.ok x->x.2 <:+ t/\Fine t [x.1])/\(∀ d t x,block f d t=.ok x->x.2 <:+ t/\Fine t x.1)/\(∀ d t x,rest f d t=.ok x->x.2 <:+ t/\Fine t x.1)
 | 0=>⟨fun _ _ _ h=>absurd h (by rw [statement]; exact qO),fun _ _ _ h=>absurd h (by rw [block]; exact qO),fun _ _ _ h=>absurd h (by rw [rest]; exact qO)⟩
 | f+1=>by
  obtain ⟨is,ib,ir⟩:=vf f
  refine ⟨fun d t x h=>?_,fun d t x h=>?_,fun d t x h=>?_⟩
  ·rw [statement] at h
   try dsimp only at h
   split at h
   ·obtain ⟨r,hr,rfl⟩:=qj h
    exact ⟨(jh hr).trans qz,.one (fun n q hq=>nomatch hq) fun _ n y hy=>by
     have:y=.skip:=by simpa using hy
     subst this; trivial⟩
   ·split at h
    ·obtain ⟨c,hc,h⟩:=qb h
     obtain ⟨a,ha,h⟩:=qb h
     obtain ⟨u,hu,h⟩:=qb h
     obtain ⟨b,hb,h⟩:=qb h
     obtain ⟨v,hv,h⟩:=qb h
     obtain ⟨e,he,h⟩:=qb h
     obtain ⟨r,hr,rfl⟩:=qj h
     obtain ⟨s1,p1⟩:=j8 hc
     obtain ⟨s2,p2⟩:=ib _ _ _ ha
     obtain ⟨s3,p3⟩:=ib _ _ _ hb
     obtain ⟨s4,p4⟩:=j8 he
     have S1:=s1.trans qz
     have S2:=s2.trans S1
     have S3:=(ji hu).trans S2
     have S4:=s3.trans S3
     have S5:=(ji hv).trans S4
     have S6:=s4.trans S5
     exact ⟨(jh hr).trans S6,(qhG (f:=f) (un:=true) (fun q hq=>(p1 q hq).mono qz) (p2.mono S1) (p3.mono S3) (fun q hq=>(p4 q hq).mono S5)).1⟩
    ·split at h
     ·obtain ⟨c,hc,h⟩:=qb h
      obtain ⟨w,hw,h⟩:=qb h
      obtain ⟨a,ha,h⟩:=qb h
      obtain ⟨u,hu,h⟩:=qb h
      obtain ⟨b,hb,h⟩:=qb h
      obtain ⟨v,hv,h⟩:=qb h
      obtain ⟨e,he,h⟩:=qb h
      obtain ⟨r,hr,rfl⟩:=qj h
      obtain ⟨s1,p1⟩:=j8 hc
      obtain ⟨s2,p2⟩:=ib _ _ _ ha
      obtain ⟨s3,p3⟩:=ib _ _ _ hb
      obtain ⟨s4,p4⟩:=j8 he
      have S1:=(ji hw).trans (s1.trans qz)
      have S2:=s2.trans S1
      have S3:=(ji hu).trans S2
      have S4:=s3.trans S3
      have S5:=(ji hv).trans S4
      have S6:=s4.trans S5
      exact ⟨(jh hr).trans S6,(qhG (f:=f) (un:=true) (fun q hq=>(p1 q hq).mono qz) (p2.mono S1) (p3.mono S3) (fun q hq=>(p4 q hq).mono S5)).2⟩
     ·split at h
      ·obtain ⟨n,hn,h⟩:=qb h
       obtain ⟨a,ha,h⟩:=qb h
       obtain ⟨r,hr,rfl⟩:=qj h
       obtain ⟨s1,p1⟩:=qjp ha
       have s0:=(ww hn).trans (qz (t:=t))
       refine ⟨((jh hr).trans s1).trans s0,.one (fun m q hq=>?_) fun hs m y hy=>?_⟩
       ·rcases List.mem_cons.mp (show q ∈ n.1.1 :: a.1.map (·.1) from hq) with rfl | hq
        ·exact (Wj hn).mono qz
        ·obtain ⟨y,hy,rfl⟩:=List.mem_map.mp hq
         exact (p1 y hy).mono s0
       ·have:y=.call (isKey "uncall" t) n.1.1 n.1.2 a.1:=by simpa using hy
        subst this
        exact fun z hz=>qjj hn (hs.suf qz) (p1 z hz)
      ·split at h
       ·obtain ⟨n,hn,h⟩:=qb h
        obtain ⟨u,hu,h⟩:=qb h
        obtain ⟨e,he,h⟩:=qb h
        obtain ⟨a,ha,h⟩:=qb h
        obtain ⟨v,hv,h⟩:=qb h
        obtain ⟨g,hg,h⟩:=qb h
        obtain ⟨r,hr,rfl⟩:=qj h
        obtain ⟨s1,p1⟩:=j8 he
        obtain ⟨s2,p2⟩:=ib _ _ _ ha
        obtain ⟨s3,p3⟩:=j8 hg
        have S1:=jh hu
        have S2:=s1.trans S1
        have S3:=s2.trans S2
        have S4:=(ji hv).trans S3
        have S5:=s3.trans S4
        have s0:=(ww hn).trans (qz (t:=t))
        have pl:∀ m,∀ q ∈ plE e.1++(plB m a.1++plE g.1),Pls n.2 q:=fun m q hq=>by
         simp only [List.mem_append] at hq
         rcases hq with hq | hq | hq
         ·exact (p1 q hq).mono S1
         ·exact (p2.1 m q hq).mono S2
         ·exact (p3 q hq).mono S4
        refine ⟨((jh hr).trans S5).trans s0,.one (fun m q hq=>?_) fun hs m y hy=>?_⟩
        ·rcases List.mem_cons.mp (show q ∈ n.1.1 :: (plE e.1++(plB m a.1++plE g.1)) from hq) with rfl | hq
         ·exact (Wj hn).mono qz
         ·exact (pl m q hq).mono s0
        ·have:y=.local_ (placeOf t) n.1.1 n.1.2 e.1 a.1 (placeOf a.2) g.1:=by simpa using hy
         subst this
         exact ⟨fun q hq=>qjj hn (hs.suf qz) (pl m q hq),p2.2 (hs.suf (S2.trans s0)) m⟩
       ·obtain ⟨a,ha,h⟩:=qb h
        obtain ⟨s1,p1⟩:=qfc ha
        have upd:∀ {o:Change} {u:Toks} {y:St×Toks},u <:+ a.2->((ex d u).bind fun e=>(take_ ";" e.2).map fun v=>(St.set a.1 o e.1,v))=.ok y->y.2 <:+ t/\Fine t [y.1]:=fun {o u y} hu h=>by
         obtain ⟨e,he,h⟩:=qb h
         obtain ⟨r,hr,rfl⟩:=qj h
         obtain ⟨s2,p2⟩:=j8 he
         exact ⟨((jh hr).trans s2).trans (hu.trans s1),qmF p1 fun q hq=>(p2 q hq).mono (hu.trans s1)⟩
        split at h
        ·obtain ⟨b,hb,h⟩:=qb h
         obtain ⟨r,hr,rfl⟩:=qj h
         obtain ⟨s2,p2⟩:=qfc hb
         have S1:=qz.trans s1
         refine ⟨((jh hr).trans s2).trans S1,.one (fun m q hq=>?_) fun hs m y hy=>?_⟩
         ·rcases List.mem_append.mp (show q ∈ plC a.1++plC b.1 from hq) with hq | hq
          ·exact p1 q hq
          ·exact (p2 q hq).mono S1
         ·have:y=.swap a.1 b.1:=by simpa using hy
          subst this; trivial
        ·split at h
         ·exact upd qz h
         ·split at h
          ·exact upd qz h
          ·obtain ⟨u,hu,h⟩:=qb h
           exact upd (jh hu) h
  ·rw [block] at h
   split at h
   ·split at h
    ·cases h
    ·obtain ⟨s,p⟩:=ir _ _ _ h
     exact ⟨s.trans qz,p.mono qz⟩
   ·exact absurd h qO
  ·rw [rest] at h
   split at h
   ·injection h with h; subst h
    exact ⟨qz,.nil⟩
   ·obtain ⟨y,hy,h⟩:=qb h
    obtain ⟨z,hz,rfl⟩:=qj h
    obtain ⟨s1,p1⟩:=is _ _ _ hy
    obtain ⟨s2,p2⟩:=ir _ _ _ hz
    exact ⟨s2.trans s1,p1.cons (p2.mono s1)⟩
theorem qiI {t:Toks} {x:List St×Toks} (h:body t=.ok x):x.2 <:+ t/\Fine t x.1:=(vf _).2.1 _ _ _ h
theorem qcI:∀ (f:Nat) (t:Toks) (x:List Decl×Toks),decls f t=.ok x->x.2 <:+ t
 | 0,_,_,h=>absurd h (by rw [decls]; exact qO)
 | f+1,t,x,h=>by
  rw [decls] at h
  obtain ⟨y,hy,h⟩:=qb h
  obtain ⟨z,hz,h⟩:=qb h
  have s0:=ww hy
  have s1:z.2 <:+ t:=by
   split at hz
   ·split at hz
    ·rename_i n p r q
     obtain ⟨v,hv,rfl⟩:=qj hz
     have s2:r <:+ y.2.drop 1:=by rw [q]; exact List.suffix_cons _ _
     exact ((jh hv).trans (s2.trans qz)).trans s0
    ·exact absurd hz qO
   ·injection hz with hz; subst hz; exact s0
  split at h
  ·obtain ⟨v,hv,rfl⟩:=qj h
   exact ((qcI f _ _ hv).trans qz).trans s1
  ·injection h with h; subst h; exact s1
theorem qbm:∀ (f:Nat) (t:Toks) (x:List Decl×Toks),params f t=.ok x->x.2 <:+ t
 | 0,_,_,h=>absurd h (by rw [params]; exact qO)
 | f+1,t,x,h=>by
  rw [params] at h
  obtain ⟨y,hy,h⟩:=qb h
  obtain ⟨z,hz,h⟩:=qb h
  have s0:=ww hy
  have s1:z.2 <:+ t:=by
   split at hz
   ·obtain ⟨v,hv,rfl⟩:=qj hz
    exact ((jh hv).trans qz).trans s0
   ·injection hz with hz; subst hz; exact s0
  split at h
  ·obtain ⟨v,hv,rfl⟩:=qj h
   exact ((qbm f _ _ hv).trans qz).trans s1
  ·injection h with h; subst h; exact s1
theorem qhd:∀ (f:Nat) (t:Toks) (x:List Proc×Toks),procs f t=.ok x->Srt t->x.2 <:+ t/\∀ d ∈ x.1,∀ n,OkB n d.body
 | 0,_,_,h,_=>absurd h (by rw [procs]; exact qO)
 | f+1,t,x,h,hs=>by
  rw [procs] at h
  split at h
  ·obtain ⟨n,hn,h⟩:=qb h
   obtain ⟨u,hu,h⟩:=qb h
   obtain ⟨a,ha,h⟩:=qb h
   obtain ⟨l,hl,h⟩:=qb h
   obtain ⟨r,hr,rfl⟩:=qj h
   have s1:=((jh hu).trans (ww hn)).trans (qz (t:=t))
   have s2:a.2 <:+ u:=by
    split at ha
    ·injection ha with ha; subst ha; exact qz
    ·obtain ⟨y,hy,ha⟩:=qb ha
     obtain ⟨v,hv,rfl⟩:=qj ha
     exact (jh hv).trans (qbm _ _ _ hy)
   have S2:=s2.trans s1
   obtain ⟨s3,p3⟩:=qiI hl
   have S3:=s3.trans S2
   obtain ⟨s4,p4⟩:=qhd f _ _ hr (hs.suf S3)
   refine ⟨s4.trans S3,fun d hd=>?_⟩
   rcases List.mem_cons.mp hd with rfl | hd
   ·exact p3.2 (hs.suf S2)
   ·exact p4 d hd
  ·injection h with h; subst h
   exact ⟨List.suffix_refl _,fun d hd=>nomatch hd⟩
theorem qkM {t:Toks} {P:Prog} (hs:Srt t) (h:program t=.ok P):OkP P:=by
 unfold program at h
 obtain ⟨g,hg,h⟩:=qb h
 obtain ⟨p,hp,h⟩:=qb h
 obtain ⟨u,hu,h⟩:=qb h
 obtain ⟨l,hl,h⟩:=qb h
 have s1:g.2 <:+ t:=by
  split at hg
  ·obtain ⟨y,hy,hg⟩:=qb hg
   obtain ⟨r,hr,rfl⟩:=qj hg
   exact ((jh hr).trans (qcI _ _ _ hy)).trans qz
  ·injection hg with hg; subst hg; exact List.suffix_refl _
 obtain ⟨s2,p2⟩:=qhd _ _ _ hp (hs.suf s1)
 have S2:=s2.trans s1
 have S3:=(ji hu).trans S2
 obtain ⟨s4,p4⟩:=qiI hl
 split at h
 ·injection h with h; subst h
  exact ⟨p4.2 (hs.suf S3) _,fun d hd=>p2 d hd _⟩
 ·exact absurd h qO
theorem qjt {b:Bytes} {P:Prog} (h:program (toks b)=.ok P):least (broken P)=least (allWrong P):=(qlE (qkM (qjT b) h)).least
end Ma
namespace Ma
open Sc25
def qG:Toks->Bool
 | (.long,_) :: _=>true
 | _=>false
def Out {α:Type} (r:Got α) (K:α->Toks->Prop) (Z:Bad->Prop):Prop:=match r with
 | .ok (x,t)=>if qG t=true then Z .full else K x t
 | .error b=>Z b
def Lg {α:Type} (r:Got α):Prop:=r=.error .full\/∃ x t,r=.ok (x,t)/\qG t=true
theorem Out.imp {α:Type} {r:Got α} {K K':α->Toks->Prop} {Z Z':Bad->Prop} (h:Out r K Z) (hk:∀ x t,r=.ok (x,t)->qG t=false->K x t->K' x t) (hz:∀ b,Z b->Z' b):Out r K' Z':=by
 unfold Out at h ⊢
 cases r with
 | error b=>exact hz b h
 | ok y =>
  obtain ⟨x,t⟩:=y
  dsimp only at h ⊢
  cases q:qG t with
  | true=>rw [q] at h; simp only [if_true] at h ⊢; exact hz _ h
  | false=>rw [q] at h; simp only [Bool.false_eq_true,if_false] at h ⊢; exact hk x t rfl q h
theorem Out.lg {α:Type} {r:Got α} {K:α->Toks->Prop} {Z:Bad->Prop} (h:Out r K Z) (hl:Lg r):Z .full:=by
 rcases hl with rfl | ⟨x,t,rfl,q⟩
 ·exact h
 ·unfold Out at h
  dsimp only at h
  rw [q] at h
  simpa using h
theorem Out.bind {α β:Type} {r:Got α} {k:α×Toks->Got β} {K:β->Toks->Prop} {Z:Bad->Prop} (h:Out (r.bind k) K Z) (hs:∀ x t,qG t=true->Lg (k (x,t))):Out r (fun x t=>Out (k (x,t)) K Z) Z:=by
 cases r with
 | error b=>exact h
 | ok y =>
  obtain ⟨x,t⟩:=y
  show if qG t=true then Z .full else Out (k (x,t)) K Z
  have h:Out (k (x,t)) K Z:=h
  cases q:qG t with
  | true=>simp only [if_true]; exact h.lg (hs x t q)
  | false=>simpa using h
theorem Out.ok {α:Type} {x:α} {t:Toks} {K:α->Toks->Prop} {Z:Bad->Prop} (h:Out (.ok (x,t)) K Z) (hl:qG t=false):K x t:=by
 unfold Out at h
 dsimp only at h
 rw [hl] at h
 simpa using h
theorem Out.err {α:Type} {b:Bad} {K:α->Toks->Prop} {Z:Bad->Prop} (h:Out (.error b:Got α) K Z):Z b:=h
theorem Lg.err {α:Type}:Lg (.error .full:Got α):=.inl rfl
theorem Lg.ok {α:Type} {x:α} {t:Toks} (h:qG t=true):Lg (.ok (x,t):Got α):=.inr ⟨x,t,rfl,h⟩
theorem Lg.bind {α β:Type} {r:Got α} {k:α×Toks->Got β} (h:Lg r) (hs:∀ x t,qG t=true->Lg (k (x,t))):Lg (r.bind k):=by
 rcases h with rfl | ⟨x,t,rfl,q⟩
 ·exact .err
 ·exact hs x t q
theorem Lg.map {α β:Type} {r:Got α} {g:α×Toks->β×Toks} (h:Lg r) (hg:∀ y,(g y).2=y.2):Lg (r.map g):=by
 rcases h with rfl | ⟨x,t,rfl,q⟩
 ·exact .err
 ·refine .inr ⟨(g (x,t)).1,(g (x,t)).2,rfl,?_⟩
  rw [hg]; exact q
theorem Zz {t:Toks} (h:qG t=true):∃ p r,t=(.long,p) :: r:=by
 match t,h with
 | (.long,p) :: r,_=>exact ⟨p,r,rfl⟩
theorem qh6 {α:Type} {t:Toks} (h:qG t=true):(fail t:Read α)=.error .full:=by
 obtain ⟨p,r,rfl⟩:=Zz h
 rfl
theorem jW {t:Toks} (h:qG t=true) (s:String):is_ s t=false:=by
 obtain ⟨p,r,rfl⟩:=Zz h
 rfl
theorem qe4 {t:Toks} (h:qG t=true) (s:String):isKey s t=false:=by
 obtain ⟨p,r,rfl⟩:=Zz h
 rfl
theorem jN {t:Toks} (h:qG t=true) (s:String):take_ s t=.error .full:=by
 unfold take_
 rw [jW h]
 exact qh6 h
theorem ZC {t:Toks} (h:qG t=true) (s:String):key s t=.error .full:=by
 unfold key
 rw [qe4 h]
 exact qh6 h
theorem Qm {t:Toks} (h:qG t=true):aName t=.error .full:=by
 obtain ⟨p,r,rfl⟩:=Zz h
 rfl
theorem qnX {t:Toks} (h:qG t=true):opOf t=none:=by
 unfold opOf
 rw [Option.map_eq_none_iff,List.find?_eq_none]
 intro o _
 rw [jW h]
 simp
theorem qi9 {t:Toks} (h:qG t=true) (d:Nat):Pt d t=.error .full:=by
 rw [P_eq,jW h,jW h]
 ·simp only [Bool.false_eq_true,if_false]
  rw [Qm h]
  rfl
 ·obtain ⟨p,r,rfl⟩:=Zz h
  intro n p r q
  cases q
theorem qjd {t:Toks} (h:qG t=true) (d:Nat):E d 0 t=.error .full:=by rw [qj1,qi9 h]; rfl
theorem Ub {t:Toks} (h:qG t=true) (d:Nat):ex d t=.error .full:=by rw [ex_E,qjd h]
theorem qiv {t:Toks} (h:qG t=true) (d:Nat):cell d t=.error .full:=by
 unfold cell
 rw [Qm h]
 rfl
theorem qlz {d:Nat}:∀ {st:Stk} {e:Ex} {t:Toks},Up st->opOf t=none->∃ e',R d 5 st e t=.ok (e',t)
 | [],e,t,_,h=>⟨e,qm8 h⟩
 | (o,p,a) :: st,e,t,hu,h=>by
  rw [qm5 hu fun s o' q=>by rw [h] at q; cases q]
  exact qlz hu.tail h
theorem lg_R {d:Nat} {st:Stk} {e:Ex} {t:Toks} (hu:Up st) (h:qG t=true):Lg (R d 5 st e t):=by
 obtain ⟨e',q⟩:=qlz (d:=d) (e:=e) hu (qnX h)
 rw [q]
 exact .ok h
theorem qd3:∀ (f:Nat),(∀ d t x,statement f d t=.ok x->x.2.length < t.length)/\(∀ d t x,block f d t=.ok x->x.2.length < t.length)/\(∀ d t x,rest f d t=.ok x->x.2.length < t.length)
 | 0=>⟨fun _ _ _ h=>absurd h (by rw [statement]; exact qO),fun _ _ _ h=>absurd h (by rw [block]; exact qO),fun _ _ _ h=>absurd h (by rw [rest]; exact qO)⟩
 | f+1=>by
  obtain ⟨is,ib,ir⟩:=qd3 f
  refine ⟨fun d t x h=>?_,fun d t x h=>?_,fun d t x h=>?_⟩
  ·have last:∀ {e:Toks} {r:Toks},take_ ";" e=.ok r->e <:+ t->r.length < t.length:=fun hr hs=>by
    have h1:=take_len hr
    have h2:=hs.length_le
    omega
   have fine:=((vf (f+1)).1 _ _ _ h).1
   have ne:x.2≠t:=fun q=>by
    rw [statement] at h
    have key2:∀ {β:Type} {e:Toks} {y:St} ,(take_ ";" e).map (fun v=>(y,v))=.ok x->e <:+ t->False:=fun hr hs=>by
     obtain ⟨r,hr,e⟩:=qj hr
     have h1:=take_len hr
     have h2:=hs.length_le
     rw [<- e] at q
     have q:r=t:=q
     rw [q] at h1
     omega
    try dsimp only at h
    split at h
    ·exact key2 (β:=Unit) h qz
    ·split at h
     ·obtain ⟨c,hc,h⟩:=qb h
      obtain ⟨a,ha,h⟩:=qb h
      obtain ⟨u,hu,h⟩:=qb h
      obtain ⟨b,hb,h⟩:=qb h
      obtain ⟨v,hv,h⟩:=qb h
      obtain ⟨e,he,h⟩:=qb h
      refine key2 (β:=Unit) h ((j8 he).1.trans ((ji hv).trans (List.IsSuffix.trans ?_ ((ji hu).trans (List.IsSuffix.trans ?_ ((j8 hc).1.trans qz))))))
      ·exact ((vf f).2.1 _ _ _ hb).1
      ·exact ((vf f).2.1 _ _ _ ha).1
     ·split at h
      ·obtain ⟨c,hc,h⟩:=qb h
       obtain ⟨w,hw,h⟩:=qb h
       obtain ⟨a,ha,h⟩:=qb h
       obtain ⟨u,hu,h⟩:=qb h
       obtain ⟨b,hb,h⟩:=qb h
       obtain ⟨v,hv,h⟩:=qb h
       obtain ⟨e,he,h⟩:=qb h
       refine key2 (β:=Unit) h ((j8 he).1.trans ((ji hv).trans (List.IsSuffix.trans ?_ ((ji hu).trans (List.IsSuffix.trans ?_ ((ji hw).trans ((j8 hc).1.trans qz)))))))
       ·exact ((vf f).2.1 _ _ _ hb).1
       ·exact ((vf f).2.1 _ _ _ ha).1
      ·split at h
       ·obtain ⟨n,hn,h⟩:=qb h
        obtain ⟨a,ha,h⟩:=qb h
        exact key2 (β:=Unit) h ((qjp ha).1.trans ((ww hn).trans qz))
       ·split at h
        ·obtain ⟨n,hn,h⟩:=qb h
         obtain ⟨u,hu,h⟩:=qb h
         obtain ⟨e,he,h⟩:=qb h
         obtain ⟨a,ha,h⟩:=qb h
         obtain ⟨v,hv,h⟩:=qb h
         obtain ⟨g,hg,h⟩:=qb h
         refine key2 (β:=Unit) h ((j8 hg).1.trans ((ji hv).trans (List.IsSuffix.trans ?_ ((j8 he).1.trans ((jh hu).trans ((ww hn).trans qz))))))
         exact ((vf f).2.1 _ _ _ ha).1
        ·obtain ⟨a,ha,h⟩:=qb h
         have s1:=(qfc ha).1
         have upd:∀ {o:Change} {u:Toks},u <:+ a.2->((ex d u).bind fun e=>(take_ ";" e.2).map fun v=>(St.set a.1 o e.1,v))=.ok x->False:=fun {o u} hu h=>by
          obtain ⟨e,he,h⟩:=qb h
          exact key2 (β:=Unit) h ((j8 he).1.trans (hu.trans s1))
         split at h
         ·obtain ⟨b,hb,h⟩:=qb h
          exact key2 (β:=Unit) h ((qfc hb).1.trans (qz.trans s1))
         ·split at h
          ·exact upd qz h
          ·split at h
           ·exact upd qz h
           ·obtain ⟨u,hu,h⟩:=qb h
            exact upd (jh hu) h
   have h1:=fine.length_le
   rcases Nat.lt_or_ge x.2.length t.length with q | q
   ·exact q
   ·exact absurd (fine.eq_of_length (Nat.le_antisymm h1 q)) ne
  ·rw [block] at h
   split at h
   ·rename_i hb
    split at h
    ·cases h
    ·have:=ir _ _ _ h
     have:=zJ hb
     omega
   ·exact absurd h qO
  ·rw [rest] at h
   split at h
   ·rename_i hb
    injection h with h; subst h
    have:=zJ hb
    show (t.drop 1).length < _
    omega
   ·obtain ⟨y,hy,h⟩:=qb h
    obtain ⟨z,hz,rfl⟩:=qj h
    have:=is _ _ _ hy
    have:=ir _ _ _ hz
    show z.2.length < _
    omega
theorem qer:∀ (n:Nat),(∀ f g d t,t.length<=n->3 * t.length+2<=f->3 * t.length+2<=g->statement f d t=statement g d t) /\
  (∀ f g d t,t.length<=n->3 * t.length+1<=f->3 * t.length+1<=g->block f d t=block g d t) /\
  (∀ f g d t,t.length<=n->3 * t.length+3<=f->3 * t.length+3<=g->rest f d t=rest g d t):=by
 intro n
 induction n using Nat.strongRecOn with
 | _ n ih =>
  have hb:∀ f g d t,t.length<=n->3 * t.length+1<=f->3 * t.length+1<=g->block f d t=block g d t:=by
   intro f g d t hl hf hg
   obtain ⟨f,rfl⟩:∃ f',f=f' + 1:=⟨f-1,by omega⟩
   obtain ⟨g,rfl⟩:∃ g',g=g' + 1:=⟨g-1,by omega⟩
   rw [block,block]
   split
   ·rename_i q
    have:=zJ q
    rw [(ih (t.drop 1).length (by omega)).2.2 f g (d-1) (t.drop 1) (Nat.le_refl _) (by omega) (by omega)]
   ·rfl
  have hs:∀ f g d t,t.length<=n->3 * t.length+2<=f->3 * t.length+2<=g->statement f d t=statement g d t:=by
   intro f g d t hl hf hg
   obtain ⟨f,rfl⟩:∃ f',f=f' + 1:=⟨f-1,by omega⟩
   obtain ⟨g,rfl⟩:∃ g',g=g' + 1:=⟨g-1,by omega⟩
   have bl:∀ {u:Toks},u <:+ t->block f d u=block g d u:=fun {u} hu=>by
    have:=hu.length_le
    exact hb f g d u (by omega) (by omega) (by omega)
   rw [statement,statement]
   try dsimp only
   split
   ·rfl
   ·split
    ·refine qm fun c hc=>?_
     have s1:=(j8 hc).1.trans (qz (t:=t))
     rw [bl s1]
     refine qm fun a ha=>qm fun u hu=>?_
     have s2:=(ji hu).trans (((vf g).2.1 _ _ _ ha).1.trans s1)
     rw [bl s2]
    ·split
     ·refine qm fun c hc=>qm fun w hw=>?_
      have s1:=(ji hw).trans ((j8 hc).1.trans (qz (t:=t)))
      rw [bl s1]
      refine qm fun a ha=>qm fun u hu=>?_
      have s2:=(ji hu).trans (((vf g).2.1 _ _ _ ha).1.trans s1)
      rw [bl s2]
     ·split
      ·rfl
      ·split
       ·refine qm fun m hm=>qm fun u hu=>qm fun e he=>?_
        rw [bl ((j8 he).1.trans ((jh hu).trans ((ww hm).trans (qz (t:=t)))))]
       ·rfl
  refine ⟨hs,hb,?_⟩
  intro f g d t hl hf hg
  obtain ⟨f,rfl⟩:∃ f',f=f' + 1:=⟨f-1,by omega⟩
  obtain ⟨g,rfl⟩:∃ g',g=g' + 1:=⟨g-1,by omega⟩
  rw [rest,rest]
  split
  ·rfl
  ·rw [hs f g d t hl (by omega) (by omega)]
   refine qm fun x hx=>?_
   have:=(qd3 g).1 _ _ _ hx
   rw [(ih x.2.length (by omega)).2.2 f g d x.2 (Nat.le_refl _) (by omega) (by omega)]
def Sm (d:Nat) (t:Toks):Got St:=statement (3 * t.length+2) d t
def Bl (d:Nat) (t:Toks):Got (List St):=block (3 * t.length+1) d t
def Rs (d:Nat) (t:Toks):Got (List St):=rest (3 * t.length+3) d t
theorem qjY (t:Toks):body t=Bl DEEP t:=(qer t.length).2.1 _ _ _ _ (Nat.le_refl _) (by unfold fuel; omega) (Nat.le_refl _)
theorem qnE {f d:Nat} {t:Toks} (h:3 * t.length+1<=f):block f d t=Bl d t:=(qer t.length).2.1 _ _ _ _ (Nat.le_refl _) h (Nat.le_refl _)
theorem B_eq (d:Nat) (t:Toks):Bl d t=if is_ "{" t=true then (if d=0 then .error .full else Rs (d-1) (t.drop 1)) else fail t:=by
 unfold Bl
 rw [block]
 split
 ·rename_i q
  have:=zJ q
  rw [(qer (t.drop 1).length).2.2 _ _ _ _ (Nat.le_refl _) (by omega) (Nat.le_refl (3 * (t.drop 1).length+3))]
  rfl
 ·rfl
theorem qm3 (d:Nat) (t:Toks):Rs d t=if is_ "}" t=true then .ok ([],t.drop 1) else (Sm d t).bind fun x=>(Rs d x.2).map fun y=>(x.1 :: y.1,y.2):=by
 unfold Rs
 rw [rest]
 split
 ·rfl
 ·refine qm fun x hx=>?_
  have:=(qd3 _).1 _ _ _ hx
  rw [(qer x.2.length).2.2 _ _ _ _ (Nat.le_refl _) (by omega) (Nat.le_refl (3 * x.2.length+3))]
theorem qfb (d:Nat) (t:Toks):Sm d t =
  if isKey "skip" t=true then (take_ ";" (t.drop 1)).map fun r=>(.skip,r)
  else if isKey "if" t=true then (ex d (t.drop 1)).bind fun c=>(Bl d c.2).bind fun a=>(key "else" a.2).bind fun u=>(Bl d u).bind fun b=>(key "fi" b.2).bind fun u=>(ex d u).bind fun e=>(take_ ";" e.2).map fun v=>(.if_ (placeOf t) c.1 a.1 b.1 (placeOf b.2) e.1,v)
  else if isKey "from" t=true then (ex d (t.drop 1)).bind fun c=>(key "do" c.2).bind fun u=>(Bl d u).bind fun a=>(key "loop" a.2).bind fun u=>(Bl d u).bind fun b=>(key "until" b.2).bind fun u=>(ex d u).bind fun e=>(take_ ";" e.2).map fun v=>(.from_ (placeOf t) c.1 a.1 b.1 (placeOf b.2) e.1,v)
  else if isKey "call" t=true\/isKey "uncall" t=true then (aName (t.drop 1)).bind fun x=>(argsAt x.2).bind fun a=>(take_ ";" a.2).map fun v=>(.call (isKey "uncall" t) x.1.1 x.1.2 a.1,v)
  else if isKey "local" t=true then (aName (t.drop 1)).bind fun x=>(take_ "=" x.2).bind fun u=>(ex d u).bind fun e=>(Bl d e.2).bind fun a=>(key "delocal" a.2).bind fun u=>(ex d u).bind fun g=>(take_ ";" g.2).map fun v=>(.local_ (placeOf t) x.1.1 x.1.2 e.1 a.1 (placeOf a.2) g.1,v)
  else (cell d t).bind fun a =>
   if is_ "<=>" a.2=true then (cell d (a.2.drop 1)).bind fun b=>(take_ ";" b.2).map fun v=>(.swap a.1 b.1,v)
   else if is_ "+=" a.2=true then (ex d (a.2.drop 1)).bind fun e=>(take_ ";" e.2).map fun v=>(.set a.1 .plus e.1,v)
   else if is_ "-=" a.2=true then (ex d (a.2.drop 1)).bind fun e=>(take_ ";" e.2).map fun v=>(.set a.1 .minus e.1,v)
   else (take_ "^=" a.2).bind fun u=>(ex d u).bind fun e=>(take_ ";" e.2).map fun v=>(.set a.1 .xor_ e.1,v):=by
 have bl:∀ {u:Toks},u <:+ t->block (3 * t.length+1) d u=Bl d u:=fun {u} hu=>by
  have:=hu.length_le
  exact qnE (by omega)
 unfold Sm
 rw [statement]
 try dsimp only
 split
 ·rfl
 ·split
  ·refine qm fun c hc=>?_
   have s1:=(j8 hc).1.trans (qz (t:=t))
   rw [bl s1]
   refine qm fun a ha=>qm fun u hu=>?_
   have s2:=(ji hu).trans (((vf _).2.1 _ _ _ ha).1.trans s1)
   rw [bl s2]
  ·split
   ·refine qm fun c hc=>qm fun w hw=>?_
    have s1:=(ji hw).trans ((j8 hc).1.trans (qz (t:=t)))
    rw [bl s1]
    refine qm fun a ha=>qm fun u hu=>?_
    have s2:=(ji hu).trans (((vf _).2.1 _ _ _ ha).1.trans s1)
    rw [bl s2]
   ·split
    ·rfl
    ·split
     ·refine qm fun m hm=>qm fun u hu=>qm fun e he=>?_
      rw [bl ((j8 he).1.trans ((jh hu).trans ((ww hm).trans (qz (t:=t)))))]
     ·rfl
theorem qbD {t:Toks} (h:qG t=true) (d:Nat):Bl d t=.error .full:=by
 rw [B_eq,jW h]
 exact qh6 h
theorem qny {t:Toks} (h:qG t=true) (d:Nat):Sm d t=.error .full:=by
 rw [qfb]
 simp only [qe4 h,Bool.false_eq_true,if_false,or_self]
 rw [qiv h]
 rfl
theorem qj5 {t:Toks} (h:qG t=true) (d:Nat):Rs d t=.error .full:=by
 rw [qm3,jW h,qny h]
 rfl
def RsA (d:Nat) (acc:List St) (t:Toks):Got (List St):=(Rs d t).map fun y=>(acc++y.1,y.2)
theorem qnV (d:Nat) (t:Toks):RsA d [] t=Rs d t:=by
 unfold RsA
 cases Rs d t <;> rfl
theorem qok (d:Nat) (acc:List St) (t:Toks):RsA d acc t=if is_ "}" t=true then .ok (acc,t.drop 1) else (Sm d t).bind fun x=>RsA d (acc++[x.1]) x.2:=by
 unfold RsA
 rw [qm3]
 split
 ·simp [Except.map]
 ·cases Sm d t with
  | error b=>rfl
  | ok x =>
   show ((Rs d x.2).map _).map _=(Rs d x.2).map _
   cases Rs d x.2 with
   | error b=>rfl
   | ok y =>
    show Except.ok _=Except.ok _
    simp
theorem qkE:∀ (n f g:Nat) (t:Toks),t.length<=n->t.length < f->t.length < g->names f t=names g t:=by
 intro n
 induction n with
 | zero =>
  intro f g t hn hf hg
  obtain ⟨f,rfl⟩:∃ f',f=f' + 1:=⟨f-1,by omega⟩
  obtain ⟨g,rfl⟩:∃ g',g=g' + 1:=⟨g-1,by omega⟩
  rw [names,names]
  refine qm fun x hx=>?_
  have:=jV hx
  omega
 | succ n ih =>
  intro f g t hn hf hg
  obtain ⟨f,rfl⟩:∃ f',f=f' + 1:=⟨f-1,by omega⟩
  obtain ⟨g,rfl⟩:∃ g',g=g' + 1:=⟨g-1,by omega⟩
  rw [names,names]
  refine qm fun x hx=>?_
  have:=jV hx
  split
  ·rename_i q
   have:=zJ q
   rw [ih f g (x.2.drop 1) (by omega) (by omega) (by omega)]
  ·rfl
def Nm (t:Toks):Got (List (Nat×Bytes)):=names (t.length+1) t
def NmT (acc:List (Nat×Bytes)) (t:Toks):Got (List (Nat×Bytes)):=if is_ "," t=true then (Nm (t.drop 1)).map fun y=>(acc++y.1,y.2) else .ok (acc,t)
theorem qkV (t:Toks):Nm t=(aName t).bind fun x=>NmT [x.1] x.2:=by
 unfold Nm
 rw [names]
 refine qm fun x hx=>?_
 have:=jV hx
 unfold NmT
 split
 ·rename_i q
  have:=zJ q
  rw [qkE _ _ _ _ (Nat.le_refl _) (show (x.2.drop 1).length < t.length by omega) (Nat.lt_succ_self _)]
  rfl
 ·rfl
theorem qi6 {acc:List (Nat×Bytes)} {t:Toks} (h:is_ "," t=true):NmT acc t=(aName (t.drop 1)).bind fun x=>NmT (acc++[x.1]) x.2:=by
 unfold NmT
 rw [if_pos h,qkV]
 cases aName (t.drop 1) with
 | error b=>rfl
 | ok x =>
  show (NmT [x.1] x.2).map _=NmT (acc++[x.1]) x.2
  unfold NmT
  split
  ·cases Nm (x.2.drop 1) with
   | error b=>rfl
   | ok y=>show Except.ok _=Except.ok _; simp
  ·rfl
theorem qhN {acc:List (Nat×Bytes)} {t:Toks} (h:is_ "," t=false):NmT acc t=.ok (acc,t):=by
 unfold NmT
 rw [h]
 rfl
end Ma
namespace Ma
open Sc25
def qbh (t:Toks):Got Decl:=(aName t).bind fun x=>if is_ "[" x.2=true then (match x.2.drop 1 with
   | (.num n,_) :: r=>(take_ "]" r).map fun r=>((⟨x.1.1,x.1.2,some n⟩:Decl),r)
   | u=>fail u) else .ok (⟨x.1.1,x.1.2,none⟩,x.2)
def qbo (t:Toks):Got Decl:=(aName t).bind fun x=>if is_ "[" x.2=true then (take_ "]" (x.2.drop 1)).map fun r=>(⟨x.1.1,x.1.2,some 0⟩,r) else .ok (⟨x.1.1,x.1.2,none⟩,x.2)
theorem Ul (f:Nat) (t:Toks):decls (f+1) t=(qbh t).bind fun y=>if is_ "," y.2=true then (decls f (y.2.drop 1)).map fun z=>(y.1 :: z.1,z.2) else .ok ([y.1],y.2):=by
 rw [decls]
 unfold qbh
 rw [bind_assoc]
 rfl
theorem Gp (f:Nat) (t:Toks):params (f+1) t=(qbo t).bind fun y=>if is_ "," y.2=true then (params f (y.2.drop 1)).map fun z=>(y.1 :: z.1,z.2) else .ok ([y.1],y.2):=by
 rw [params]
 unfold qbo
 rw [bind_assoc]
theorem Gm {t:Toks} {x:Decl×Toks} (h:qbh t=.ok x):x.2.length < t.length:=by
 unfold qbh at h
 obtain ⟨y,hy,h⟩:=qb h
 have:=jV hy
 split at h
 ·rename_i q
  have:=zJ q
  split at h
  ·rename_i n p r e
   obtain ⟨v,hv,rfl⟩:=qj h
   have h1:=take_len hv
   have h2:=congrArg List.length e
   rw [List.length_cons] at h2
   show v.length < _
   omega
  ·exact absurd h qO
 ·injection h with h; subst h
  show y.2.length < _
  omega
theorem Gy {t:Toks} {x:Decl×Toks} (h:qbo t=.ok x):x.2.length < t.length:=by
 unfold qbo at h
 obtain ⟨y,hy,h⟩:=qb h
 have:=jV hy
 split at h
 ·rename_i q
  have:=zJ q
  obtain ⟨v,hv,rfl⟩:=qj h
  have h1:=take_len hv
  show v.length < _
  omega
 ·injection h with h; subst h
  show y.2.length < _
  omega
theorem qhg:∀ (n f g:Nat) (t:Toks),t.length<=n->t.length < f->t.length < g->decls f t=decls g t:=by
 intro n
 induction n with
 | zero =>
  intro f g t hn hf hg
  obtain ⟨f,rfl⟩:∃ f',f=f' + 1:=⟨f-1,by omega⟩
  obtain ⟨g,rfl⟩:∃ g',g=g' + 1:=⟨g-1,by omega⟩
  rw [Ul,Ul]
  refine qm fun x hx=>?_
  have:=Gm hx
  omega
 | succ n ih =>
  intro f g t hn hf hg
  obtain ⟨f,rfl⟩:∃ f',f=f' + 1:=⟨f-1,by omega⟩
  obtain ⟨g,rfl⟩:∃ g',g=g' + 1:=⟨g-1,by omega⟩
  rw [Ul,Ul]
  refine qm fun x hx=>?_
  have:=Gm hx
  split
  ·rename_i q
   have:=zJ q
   rw [ih f g (x.2.drop 1) (by omega) (by omega) (by omega)]
  ·rfl
theorem qjO:∀ (n f g:Nat) (t:Toks),t.length<=n->t.length < f->t.length < g->params f t=params g t:=by
 intro n
 induction n with
 | zero =>
  intro f g t hn hf hg
  obtain ⟨f,rfl⟩:∃ f',f=f' + 1:=⟨f-1,by omega⟩
  obtain ⟨g,rfl⟩:∃ g',g=g' + 1:=⟨g-1,by omega⟩
  rw [Gp,Gp]
  refine qm fun x hx=>?_
  have:=Gy hx
  omega
 | succ n ih =>
  intro f g t hn hf hg
  obtain ⟨f,rfl⟩:∃ f',f=f' + 1:=⟨f-1,by omega⟩
  obtain ⟨g,rfl⟩:∃ g',g=g' + 1:=⟨g-1,by omega⟩
  rw [Gp,Gp]
  refine qm fun x hx=>?_
  have:=Gy hx
  split
  ·rename_i q
   have:=zJ q
   rw [ih f g (x.2.drop 1) (by omega) (by omega) (by omega)]
  ·rfl
def Dc (t:Toks):Got (List Decl):=decls (t.length+1) t
def Pm (t:Toks):Got (List Decl):=params (t.length+1) t
def SepT (F:Toks->Got (List Decl)) (acc:List Decl) (t:Toks):Got (List Decl):=if is_ "," t=true then (F (t.drop 1)).map fun y=>(acc++y.1,y.2) else .ok (acc,t)
theorem qkx (t:Toks):Dc t=(qbh t).bind fun x=>SepT Dc [x.1] x.2:=by
 unfold Dc
 rw [Ul]
 refine qm fun x hx=>?_
 have:=Gm hx
 unfold SepT
 split
 ·rename_i q
  have:=zJ q
  rw [qhg _ _ _ _ (Nat.le_refl _) (show (x.2.drop 1).length < t.length by omega) (Nat.lt_succ_self _)]
  rfl
 ·rfl
theorem qiV (t:Toks):Pm t=(qbo t).bind fun x=>SepT Pm [x.1] x.2:=by
 unfold Pm
 rw [Gp]
 refine qm fun x hx=>?_
 have:=Gy hx
 unfold SepT
 split
 ·rename_i q
  have:=zJ q
  rw [qjO _ _ _ _ (Nat.le_refl _) (show (x.2.drop 1).length < t.length by omega) (Nat.lt_succ_self _)]
  rfl
 ·rfl
theorem qcN {F:Toks->Got (List Decl)} {G:Toks->Got Decl} (hF:∀ t,F t=(G t).bind fun x=>SepT F [x.1] x.2) {acc:List Decl} {t:Toks} (h:is_ "," t=true) :
  SepT F acc t=(G (t.drop 1)).bind fun x=>SepT F (acc++[x.1]) x.2:=by
 conv=>lhs; unfold SepT
 rw [if_pos h,hF]
 cases G (t.drop 1) with
 | error b=>rfl
 | ok x =>
  show (SepT F [x.1] x.2).map _=SepT F (acc++[x.1]) x.2
  unfold SepT
  split
  ·cases F (x.2.drop 1) with
   | error b=>rfl
   | ok y=>show Except.ok _=Except.ok _; simp
  ·rfl
theorem qcp {F:Toks->Got (List Decl)} {acc:List Decl} {t:Toks} (h:is_ "," t=false):SepT F acc t=.ok (acc,t):=by
 unfold SepT
 rw [h]
 rfl
def qgz (u:Toks):Got (List Decl):=if is_ ")" u=true then .ok ([],u.drop 1) else (Pm u).bind fun x=>(take_ ")" x.2).map fun r=>(x.1,r)
def Yk (t:Toks):Got Proc:=(aName (t.drop 1)).bind fun n=>(take_ "(" n.2).bind fun u=>(qgz u).bind fun a=>(Bl DEEP a.2).map fun l=>(⟨n.1.1,n.1.2,a.1,l.1⟩,l.2)
theorem Uy (f:Nat) (t:Toks):procs (f+1) t=if isKey "proc" t=true then (Yk t).bind fun p=>(procs f p.2).map fun r=>(p.1 :: r.1,r.2) else .ok ([],t):=by
 rw [procs]
 split
 ·unfold Yk
  rw [bind_assoc]
  refine qm fun n hn=>?_
  rw [bind_assoc]
  refine qm fun u hu=>?_
  rw [bind_assoc]
  refine qm fun a ha=>?_
  rw [qjY,jB,bind_assoc]
  rfl
 ·rfl
theorem qcS {t:Toks} {x:Proc×Toks} (h:Yk t=.ok x):x.2.length < t.length:=by
 unfold Yk at h
 obtain ⟨n,hn,h⟩:=qb h
 obtain ⟨u,hu,h⟩:=qb h
 obtain ⟨a,ha,h⟩:=qb h
 obtain ⟨l,hl,rfl⟩:=qj h
 have h1:=jV hn
 have h2:=take_len hu
 have h3:=(qd3 _).2.1 _ _ _ hl
 have h4:a.2.length<=u.length:=by
  unfold qgz at ha
  split at ha
  ·injection ha with ha; subst ha; rw [List.length_drop]; omega
  ·obtain ⟨y,hy,ha⟩:=qb ha
   obtain ⟨r,hr,rfl⟩:=qj ha
   have:=take_len hr
   have:=(qbm _ _ _ hy).length_le
   show r.length<=_
   omega
 have h5:(t.drop 1).length<=t.length:=by rw [List.length_drop]; omega
 show l.2.length < _
 omega
theorem qhs:∀ (n f g:Nat) (t:Toks),t.length<=n->t.length < f->t.length < g->procs f t=procs g t:=by
 intro n
 induction n with
 | zero =>
  intro f g t hn hf hg
  obtain ⟨f,rfl⟩:∃ f',f=f' + 1:=⟨f-1,by omega⟩
  obtain ⟨g,rfl⟩:∃ g',g=g' + 1:=⟨g-1,by omega⟩
  rw [Uy,Uy]
  split
  ·refine qm fun x hx=>?_
   have:=qcS hx
   omega
  ·rfl
 | succ n ih =>
  intro f g t hn hf hg
  obtain ⟨f,rfl⟩:∃ f',f=f' + 1:=⟨f-1,by omega⟩
  obtain ⟨g,rfl⟩:∃ g',g=g' + 1:=⟨g-1,by omega⟩
  rw [Uy,Uy]
  split
  ·refine qm fun x hx=>?_
   have:=qcS hx
   rw [ih f g x.2 (by omega) (by omega) (by omega)]
  ·rfl
def Pr (t:Toks):Got (List Proc):=procs (t.length+1) t
def PrA (acc:List Proc) (t:Toks):Got (List Proc):=(Pr t).map fun y=>(acc++y.1,y.2)
theorem qhT (t:Toks):PrA [] t=Pr t:=by
 unfold PrA
 cases Pr t <;> rfl
theorem qk0 (acc:List Proc) (t:Toks):PrA acc t=if isKey "proc" t=true then (Yk t).bind fun x=>PrA (acc++[x.1]) x.2 else .ok (acc,t):=by
 unfold PrA
 conv=>lhs; unfold Pr
 rw [Uy]
 split
 ·cases q:Yk t with
  | error b=>rfl
  | ok x =>
   have:=qcS q
   show ((procs t.length x.2).map _).map _=(Pr x.2).map _
   rw [qhs _ _ (x.2.length+1) _ (Nat.le_refl _) this (Nat.lt_succ_self _)]
   show ((Pr x.2).map _).map _=(Pr x.2).map _
   cases Pr x.2 with
   | error b=>rfl
   | ok y=>show Except.ok _=Except.ok _; simp
 ·simp [Except.map]
def GC (t:Toks):Got (List Decl):=if isKey "int" t=true then (Dc (t.drop 1)).bind fun x=>(take_ ";" x.2).map fun r=>(x.1,r) else .ok ([],t)
def atEnd:Toks->Bool
 | [(.ended,_)]=>true
 | _=>false
theorem qky (t:Toks):program t=(GC t).bind fun g=>(Pr g.2).bind fun p=>(key "main" p.2).bind fun u=>(Bl DEEP u).bind fun l=>if atEnd l.2=true then .ok ⟨g.1,p.1,l.1⟩ else fail l.2:=by
 unfold program GC
 have gl:(if isKey "int" t=true then (decls (t.length+1) (t.drop 1)).bind fun x=>(take_ ";" x.2).map fun r=>(x.1,r) else .ok ([],t):Got (List Decl)) =
   if isKey "int" t=true then (Dc (t.drop 1)).bind fun x=>(take_ ";" x.2).map fun r=>(x.1,r) else .ok ([],t):=by
  split
  ·rename_i q
   have:=qnf q
   unfold Dc
   rw [qhg _ _ ((t.drop 1).length+1) _ (Nat.le_refl _) (by omega) (Nat.lt_succ_self _)]
  ·rfl
 rw [gl]
 refine qm fun g hg=>?_
 have gle:g.2.length<=t.length:=by
  split at hg
  ·obtain ⟨y,hy,hg⟩:=qb hg
   obtain ⟨r,hr,rfl⟩:=qj hg
   have:=take_len hr
   have:=(qcI _ _ _ hy).length_le
   have h5:(t.drop 1).length<=t.length:=by rw [List.length_drop]; omega
   show r.length<=_
   omega
  ·injection hg with hg; subst hg; exact Nat.le_refl _
 unfold Pr
 rw [qhs _ _ (g.2.length+1) _ (Nat.le_refl _) (show g.2.length < t.length+1 by omega) (Nat.lt_succ_self _)]
 refine qm fun p hp=>qm fun u hu=>?_
 rw [qjY]
 refine qm fun l hl=>?_
 match l.2 with
 | []=>rfl
 | [(.ended,k)]=>rfl
 | (.ended,k) :: y :: r=>rfl
 | (.name _,k) :: r=>rfl
 | (.num _,k) :: r=>rfl
 | (.sign _,k) :: r=>rfl
 | (.long,k) :: r=>rfl
 | (.bad,k) :: r=>rfl
theorem qj3 {t:Toks} (h:qG t=true):qbh t=.error .full:=by unfold qbh; rw [Qm h]; rfl
theorem qjU {t:Toks} (h:qG t=true):qbo t=.error .full:=by unfold qbo; rw [Qm h]; rfl
end Ma
namespace Ma
open Sc25
open PySem (Str)
def sB (b:Bytes):Str:=⟨b.toArray⟩
theorem Xq {a b:Bytes} (h:sB a=sB b):a=b:=by
 unfold sB at h
 injection h with h
 have:=congrArg Array.toList h
 simpa using this
def kindS:Tok->Str
 | .name w=>if kept.contains w=true then sB w else "name"
 | .num _ => "number"
 | .sign s=>if s=[37] then "rest" else sB s
 | .long => "long"
 | .bad => "other"
 | .ended => "end"
def Wf:Tok->Prop
 | .sign s=>s ∈ signs
 | _=>True
theorem qox:∀ (f k:Nat) (b:Bytes),∀ y ∈ toksFrom f k b,Wf y.1:=by
 intro f
 induction f with
 | zero=>intro k b y hy; simp [toksFrom] at hy; subst hy; trivial
 | succ f ih =>
  intro k b y hy
  cases b with
  | nil=>rw [Ys] at hy; simp at hy; subst hy; trivial
  | cons c r =>
   simp only [toksFrom] at hy
   split at hy
   ·exact ih _ _ y hy
   ·split at hy
    ·exact ih _ _ y hy
    ·split at hy
     ·rcases List.mem_cons.mp hy with rfl | hy
      ·show Wf (if _ then _ else _)
       split <;> trivial
      ·exact ih _ _ y hy
     ·split at hy
      ·rcases List.mem_cons.mp hy with rfl | hy
       ·show Wf (if _ then _ else _)
        split <;> trivial
       ·exact ih _ _ y hy
      ·split at hy
       ·rename_i s hs
        rcases List.mem_cons.mp hy with rfl | hy
        ·exact List.mem_of_find?_eq_some hs
        ·exact ih _ _ y hy
       ·simp at hy; subst hy; trivial
theorem qj4 (b:Bytes) (k:Nat):∀ y ∈ strm b k,Wf y.1:=qox _ _ _
structure jR (k:String):Prop where
 eq:(k:Str)=sB (ascii k)
 ne:ascii k≠[37]
 no:∀ w ∈ kept,sB w≠(k:Str)
 other:(k:Str) ≠ "name" /\ (k:Str) ≠ "number" /\ (k:Str) ≠ "rest" /\ (k:Str) ≠ "long" /\ (k:Str) ≠ "other" /\ (k:Str) ≠ "end"
theorem jR.iff {k:String} (h:jR k) (tok:Tok):kindS tok=(k:Str)↔tok=.sign (ascii k):=by
 obtain ⟨h1,h2,h3,h4,h5,h6,h7,h8,h9⟩:=h
 cases tok with
 | name w =>
  simp only [kindS]
  constructor
  ·intro q
   split at q
   ·rename_i hw
    exact absurd q (h3 w (by simpa using hw))
   ·exact absurd q.symm h4
  ·intro q; cases q
 | num n=>exact ⟨fun q=>absurd q.symm h5,fun q=>nomatch q⟩
 | sign s =>
  simp only [kindS]
  constructor
  ·intro q
   split at q
   ·exact absurd q.symm h6
   ·rw [h1] at q; rw [Xq q]
  ·intro q
   injection q with q
   subst q
   rw [if_neg h2,h1]
 | long=>exact ⟨fun q=>absurd q.symm h7,fun q=>nomatch q⟩
 | bad=>exact ⟨fun q=>absurd q.symm h8,fun q=>nomatch q⟩
 | ended=>exact ⟨fun q=>absurd q.symm h9,fun q=>nomatch q⟩
theorem jR.is {k:String} (h:jR k) (tok:Tok) (p:Nat) (r:Toks):is_ k ((tok,p) :: r)=decide (kindS tok=(k:Str)):=by
 by_cases q:kindS tok=(k:Str)
 ·rw [decide_eq_true q]
  rw [(h.iff tok).mp q]
  simp [is_]
 ·rw [decide_eq_false q]
  cases tok with
  | sign s =>
   simp only [is_]
   rw [decide_eq_false]
   intro e
   subst e
   exact q ((h.iff _).mpr rfl)
  | _=>rfl
structure IsKw (k:String):Prop where
 eq:(k:Str)=sB (ascii k)
 kept:kept.contains (ascii k)=true
 no:∀ s ∈ signs,sB s≠(k:Str)
 other:(k:Str) ≠ "name" /\ (k:Str) ≠ "number" /\ (k:Str) ≠ "rest" /\ (k:Str) ≠ "long" /\ (k:Str) ≠ "other" /\ (k:Str) ≠ "end"
theorem IsKw.iff {k:String} (h:IsKw k) {tok:Tok} (hw:Wf tok):kindS tok=(k:Str)↔tok=.name (ascii k):=by
 obtain ⟨h1,h2,h3,h4,h5,h6,h7,h8,h9⟩:=h
 cases tok with
 | name w =>
  simp only [kindS]
  constructor
  ·intro q
   split at q
   ·rw [h1] at q; rw [Xq q]
   ·exact absurd q.symm h4
  ·intro q
   injection q with q
   subst q
   rw [if_pos h2,h1]
 | num n=>exact ⟨fun q=>absurd q.symm h5,fun q=>nomatch q⟩
 | sign s =>
  simp only [kindS]
  constructor
  ·intro q
   split at q
   ·exact absurd q.symm h6
   ·exact absurd q (h3 s hw)
  ·intro q; cases q
 | long=>exact ⟨fun q=>absurd q.symm h7,fun q=>nomatch q⟩
 | bad=>exact ⟨fun q=>absurd q.symm h8,fun q=>nomatch q⟩
 | ended=>exact ⟨fun q=>absurd q.symm h9,fun q=>nomatch q⟩
theorem IsKw.is {k:String} (h:IsKw k) {tok:Tok} (hw:Wf tok) (p:Nat) (r:Toks):isKey k ((tok,p) :: r)=decide (kindS tok=(k:Str)):=by
 by_cases q:kindS tok=(k:Str)
 ·rw [decide_eq_true q,(h.iff hw).mp q]
  simp [isKey]
 ·rw [decide_eq_false q]
  cases tok with
  | name s =>
   simp only [isKey]
   rw [decide_eq_false]
   intro e
   subst e
   exact q ((h.iff hw).mpr rfl)
  | _=>rfl
theorem qhV:∀ w ∈ kept,sB w≠("name" : Str)/\sB w≠("number" : Str)/\sB w≠("end" : Str)/\sB w≠("other" : Str)/\sB w≠("rest" : Str)/\sB w≠("row" : Str):=by decide +kernel
theorem qg0:∀ w ∈ signs,sB w≠("name" : Str)/\sB w≠("number" : Str)/\sB w≠("end" : Str)/\sB w≠("other" : Str)/\sB w≠("rest" : Str)/\sB w≠("row" : Str):=by decide +kernel
theorem qiA {tok:Tok} (hw:Wf tok):kindS tok = "name" ↔ ∃ w,tok=.name w/\kept.contains w=false:=by
 cases tok with
 | name w =>
  simp only [kindS]
  constructor
  ·intro q
   split at q
   ·rename_i h
    exact absurd q (qhV w (by simpa using h)).1
   ·rename_i h
    exact ⟨w,rfl,by simpa using h⟩
  ·rintro ⟨v,e,h⟩
   injection e with e
   subst e
   rw [if_neg (by rw [h]; decide)]
 | sign s =>
  simp only [kindS]
  constructor
  ·intro q
   split at q
   ·exact absurd q (by decide)
   ·exact absurd q (qg0 s hw).1
  ·rintro ⟨v,e,h⟩; cases e
 | num n=>exact ⟨fun q=>absurd (show ("number" : Str) = "name" from q) (by decide),fun ⟨_,e,_⟩=>nomatch e⟩
 | long=>exact ⟨fun q=>absurd q (by decide),fun ⟨_,e,_⟩=>nomatch e⟩
 | bad=>exact ⟨fun q=>absurd q (by decide),fun ⟨_,e,_⟩=>nomatch e⟩
 | ended=>exact ⟨fun q=>absurd q (by decide),fun ⟨_,e,_⟩=>nomatch e⟩
theorem qjv {tok:Tok} (hw:Wf tok):kindS tok = "number" ↔ ∃ n,tok=.num n:=by
 cases tok with
 | name w =>
  simp only [kindS]
  constructor
  ·intro q
   split at q
   ·rename_i h
    exact absurd q (qhV w (by simpa using h)).2.1
   ·exact absurd q (by decide)
  ·rintro ⟨v,e⟩; cases e
 | sign s =>
  simp only [kindS]
  constructor
  ·intro q
   split at q
   ·exact absurd q (by decide)
   ·exact absurd q (qg0 s hw).2.1
  ·rintro ⟨v,e⟩; cases e
 | num n=>exact ⟨fun q=>⟨n,rfl⟩,fun _=>rfl⟩
 | long=>exact ⟨fun q=>absurd q (by decide),fun ⟨_,e⟩=>nomatch e⟩
 | bad=>exact ⟨fun q=>absurd q (by decide),fun ⟨_,e⟩=>nomatch e⟩
 | ended=>exact ⟨fun q=>absurd q (by decide),fun ⟨_,e⟩=>nomatch e⟩
theorem qmQ {tok:Tok} (hw:Wf tok):kindS tok = "end" ↔ tok=.ended:=by
 cases tok with
 | name w =>
  simp only [kindS]
  constructor
  ·intro q
   split at q
   ·rename_i h
    exact absurd q (qhV w (by simpa using h)).2.2.1
   ·exact absurd q (by decide)
  ·intro e; cases e
 | sign s =>
  simp only [kindS]
  constructor
  ·intro q
   split at q
   ·exact absurd q (by decide)
   ·exact absurd q (qg0 s hw).2.2.1
  ·intro e; cases e
 | num n=>exact ⟨fun q=>absurd (show ("number" : Str) = "end" from q) (by decide),fun e=>nomatch e⟩
 | long=>exact ⟨fun q=>absurd q (by decide),fun e=>nomatch e⟩
 | bad=>exact ⟨fun q=>absurd q (by decide),fun e=>nomatch e⟩
 | ended=>exact ⟨fun q=>rfl,fun _=>rfl⟩
theorem Uo {tok:Tok} {p:Nat} {r:Toks} (hw:Wf tok):(kindS tok = "name" -> ∃ w,tok=.name w/\aName ((tok,p) :: r)=.ok ((p,w),r))/\(kindS tok ≠ "name" -> aName ((tok,p) :: r)=fail ((tok,p) :: r)):=by
 constructor
 ·intro q
  obtain ⟨w,rfl,h⟩:=(qiA hw).mp q
  exact ⟨w,rfl,by simp only [aName]; rw [if_neg (by rw [h]; decide)]⟩
 ·intro q
  cases tok with
  | name w =>
   simp only [aName]
   split
   ·rfl
   ·rename_i h
    exact absurd ((qiA hw).mpr ⟨w,rfl,by simpa using h⟩) q
  | _=>rfl
def strgs:List (Str×Int):=[("|",1),("^",2),("&",3),("=",4),("!=",4),("<=",4),("<",4),("+",5),("-",5),("*",6),("/",6),("rest",6)]
def Z8 (o:Op):Str:=match o with
 | .or_ => "|" | .xor_ => "^" | .and_ => "&" | .eq => "=" | .ne => "!=" | .le => "<=" | .lt => "<" | .add => "+" | .sub => "-" | .mul => "*" | .div => "/" | .mod => "rest"
theorem qnF (o:Op):strgs.lookup (Z8 o)=some ((level o:Int)+1):=by cases o <;> decide +kernel
theorem qmv:∀ a ∈ operators,kindS (.sign (ascii a.2.1))=Z8 a.2.2:=by decide +kernel
theorem qlW:∀ a ∈ strgs,∃ o ∈ operators,a.1=kindS (.sign (ascii o.2.1)):=by decide +kernel
theorem qk5 {tok:Tok} {p:Nat} {r:Toks} {s:Nat} {o:Op} (h:opOf ((tok,p) :: r)=some (s,o)):kindS tok=Z8 o/\level o=s:=by
 refine ⟨?_,(qe7 h).2⟩
 obtain ⟨a,ha,e⟩:=Option.map_eq_some_iff.mp h
 have h1:=List.find?_some ha
 have h2:=List.mem_of_find?_eq_some ha
 injection e with e1 e2
 subst e1 e2
 obtain ⟨p',r',e⟩:=qbq h1
 injection e with e _
 injection e with e _
 rw [e]
 exact qmv a h2
theorem qiM:∀ a ∈ signs,∀ b ∈ signs,kindS (.sign a)=kindS (.sign b)->a=b:=by decide +kernel
theorem ql2:∀ o ∈ operators,ascii o.2.1 ∈ signs:=by decide +kernel
theorem qmL:∀ w ∈ kept,∀ o ∈ operators,sB w≠kindS (.sign (ascii o.2.1)):=by decide +kernel
theorem qnU:∀ o ∈ operators,kindS (.sign (ascii o.2.1)) ≠ "name" /\ kindS (.sign (ascii o.2.1)) ≠ "number" /\ kindS (.sign (ascii o.2.1)) ≠ "long" /\ kindS (.sign (ascii o.2.1)) ≠ "other" /\ kindS (.sign (ascii o.2.1)) ≠ "end" := by decide +kernel
theorem qlT {tok:Tok} {p:Nat} {r:Toks} (hw:Wf tok) (h:opOf ((tok,p) :: r)=none):strgs.lookup (kindS tok)=none:=by
 cases q:strgs.lookup (kindS tok) with
 | none=>rfl
 | some v =>
  exfalso
  have hm:(kindS tok,v) ∈ strgs:=List.lookup_eq_some_iff.mp q |> fun ⟨l1,l2,e,_⟩=>by rw [e]; simp
  obtain ⟨o,ho,e⟩:=qlW _ hm
  have e:kindS tok=kindS (.sign (ascii o.2.1)):=e
  have et:tok=.sign (ascii o.2.1):=by
   obtain ⟨n1,n2,n3,n4,n5⟩:=qnU o ho
   cases tok with
   | name w =>
    simp only [kindS] at e
    split at e
    ·rename_i hk
     exact absurd e (qmL w (by simpa using hk) o ho)
    ·exact absurd e.symm n1
   | num n=>exact absurd e.symm n2
   | sign s=>rw [qiM s hw _ (ql2 o ho) e]
   | long=>exact absurd e.symm n3
   | bad=>exact absurd e.symm n4
   | ended=>exact absurd e.symm n5
  unfold opOf at h
  rw [Option.map_eq_none_iff,List.find?_eq_none] at h
  refine h o ho ?_
  rw [et]
  simp [is_]
end Ma
namespace Ma
open Sc25
theorem qgk:∀ (f:Nat),(∀ d k t x,expr f d k t=.ok x->(post x.1).length+x.2.length<=t.length)/\(∀ d k a t x,more f d k a t=.ok x->(post x.1).length+x.2.length<=(post a).length+t.length)/\(∀ d t x,part f d t=.ok x->(post x.1).length+x.2.length<=t.length)
 | 0=>⟨fun _ _ _ _ h=>absurd h (by rw [expr]; exact qO),fun _ _ _ _ _ h=>absurd h (by rw [more]; exact qO),fun _ _ _ h=>absurd h (by rw [part]; exact qO)⟩
 | f+1=>by
  obtain ⟨ie,im,ip⟩:=qgk f
  refine ⟨fun d k t x h=>?_,fun d k a t x h=>?_,fun d t x h=>?_⟩
  ·rw [expr] at h
   split at h
   ·exact ip _ _ _ h
   ·obtain ⟨y,hy,h⟩:=qb h
    have h1:=ie _ _ _ _ hy
    have h2:=im _ _ _ _ _ h
    omega
  ·rw [more] at h
   split at h
   ·rename_i o ho
    obtain ⟨y,hy,h⟩:=qb h
    have h1:=ie _ _ _ _ hy
    have h2:=im _ _ _ _ _ h
    have h3:=qcC ho
    simp only [post,List.length_append,List.length_cons,List.length_nil] at h2
    omega
   ·injection h with h; subst h; exact Nat.le_refl _
  ·unfold part at h
   split at h
   ·injection h with h; subst h
    simp only [post,List.length_cons,List.length_nil]
    omega
   ·split at h
    ·rename_i hb
     have h3:=zJ hb
     split at h
     ·cases h
     ·obtain ⟨y,hy,rfl⟩:=qj h
      have h1:=ip _ _ _ hy
      simp only [post,List.length_append,List.length_cons,List.length_nil]
      omega
    ·split at h
     ·rename_i hb
      have h3:=zJ hb
      split at h
      ·cases h
      ·obtain ⟨y,hy,h⟩:=qb h
       obtain ⟨r,hr,rfl⟩:=qj h
       have h1:=ie _ _ _ _ hy
       have h2:=take_len hr
       show (post y.1).length+r.length<=_
       omega
     ·obtain ⟨y,hy,h⟩:=qb h
      have h0:=jV hy
      split at h
      ·rename_i hb
       have h3:=zJ hb
       split at h
       ·cases h
       ·obtain ⟨z,hz,h⟩:=qb h
        obtain ⟨r,hr,rfl⟩:=qj h
        have h1:=ie _ _ _ _ hz
        have h2:=take_len hr
        simp only [post,List.length_append,List.length_cons,List.length_nil]
        omega
      ·injection h with h; subst h
       simp only [post,List.length_cons,List.length_nil]
       omega
theorem qlm {d k:Nat} {t:Toks} {x:Ex×Toks} (h:E d k t=.ok x):(post x.1).length+x.2.length<=t.length:=(qgk _).1 _ _ _ _ h
theorem qjC {d:Nat} {t:Toks} {x:Ex×Toks} (h:Pt d t=.ok x):(post x.1).length+x.2.length<=t.length:=(qgk _).2.2 _ _ _ h
end Ma
namespace Ma
open Sc25
theorem qng:∀ (f k:Nat) (b:Bytes) (p:Nat) (r:Toks),(.ended,p) :: r <:+ toksFrom f k b->r=[]:=by
 intro f
 have one:∀ (x:Tok×Nat) (p:Nat) (r:Toks),((.ended,p) :: r:Toks) <:+ [x]->r=[]:=fun x p r h=>by
  have:=h.length_le
  simp only [List.length_cons,List.length_nil] at this
  exact List.length_eq_zero_iff.mp (by omega)
 have more:∀ (x:Tok×Nat) (t:Toks) (p:Nat) (r:Toks),x.1≠.ended->((.ended,p) :: r:Toks) <:+ (x :: t)->((.ended,p) :: r:Toks) <:+ t:=fun x t p r ne h=>by
  rcases List.suffix_cons_iff.mp h with e | h
  ·injection e with e _
   rw [<- e] at ne
   exact absurd rfl ne
  ·exact h
 induction f with
 | zero=>intro k b p r h; rw [toksFrom] at h; exact one _ _ _ h
 | succ f ih =>
  intro k b p r h
  cases b with
  | nil=>rw [Ys] at h; exact one _ _ _ h
  | cons c b =>
   simp only [toksFrom] at h
   split at h
   ·exact ih _ _ _ _ h
   ·split at h
    ·exact ih _ _ _ _ h
    ·split at h
     ·refine ih _ _ _ _ (more _ _ _ _ ?_ h)
      show (if _ then _ else _)≠_
      split <;> exact fun q=>nomatch q
     ·split at h
      ·refine ih _ _ _ _ (more _ _ _ _ ?_ h)
       show (if _ then _ else _)≠_
       split <;> exact fun q=>nomatch q
      ·split at h
       ·exact ih _ _ _ _ (more _ _ _ _ (by simp) h)
       ·exact one _ _ _ h
theorem qlI {b:Bytes} {k p:Nat} {r:Toks} (h:(.ended,p) :: r <:+ strm b k):r=[]:=qng _ _ _ _ _ h
theorem qn3 {t:Toks} {x:List Decl×Toks} (h:GC t=.ok x):x.2 <:+ t:=by
 unfold GC at h
 split at h
 ·obtain ⟨y,hy,h⟩:=qb h
  obtain ⟨r,hr,rfl⟩:=qj h
  exact ((jh hr).trans (qcI _ _ _ hy)).trans qz
 ·injection h with h; subst h
  exact List.suffix_refl _
theorem qld {d:Nat} {t:Toks} {x:List St×Toks} (h:Bl d t=.ok x):x.2 <:+ t:=((vf _).2.1 _ _ _ h).1
theorem qk8 {t:Toks} {x:Proc×Toks} (h:Yk t=.ok x):x.2 <:+ t:=by
 unfold Yk at h
 obtain ⟨n,hn,h⟩:=qb h
 obtain ⟨u,hu,h⟩:=qb h
 obtain ⟨a,ha,h⟩:=qb h
 obtain ⟨l,hl,rfl⟩:=qj h
 have s2:a.2 <:+ u:=by
  unfold qgz at ha
  split at ha
  ·injection ha with ha; subst ha; exact qz
  ·obtain ⟨y,hy,ha⟩:=qb ha
   obtain ⟨v,hv,rfl⟩:=qj ha
   exact (jh hv).trans (qbm _ _ _ hy)
 exact (qld hl).trans (s2.trans ((jh hu).trans ((ww hn).trans qz)))
def vY (t:Toks):Got Prog:=(GC t).bind fun g=>(Pr g.2).bind fun p=>(key "main" p.2).bind fun u=>(Bl DEEP u).bind fun l=>if atEnd l.2=true then .ok (⟨g.1,p.1,l.1⟩,l.2) else fail l.2
theorem qog (t:Toks):program t=(vY t).map (·.1):=by
 rw [qky]
 unfold vY
 simp only [jB,bind_assoc]
 refine qm fun g hg=>qm fun p hp=>qm fun u hu=>qm fun l hl=>?_
 split
 ·rfl
 ·have:∀ t:Toks,(fail t:Read Prog)=(fail t:Got Prog).bind fun x=>.ok x.1:=fun t=>by
   match t with
   | []=>rfl
   | (.ended,k) :: r=>rfl
   | (.name _,k) :: r=>rfl
   | (.num _,k) :: r=>rfl
   | (.sign _,k) :: r=>rfl
   | (.long,k) :: r=>rfl
   | (.bad,k) :: r=>rfl
  exact this _
theorem qjq {acc:List Proc} {t:Toks} (h:qG t=true):PrA acc t=.ok (acc,t):=by
 rw [qk0,qe4 h]
 rfl
end Ma
namespace Ma
open Sc25
theorem qnp (e:Ex):(plE e).length<=(post e).length:=by
 unfold plE
 generalize post e=l
 induction l with
 | nil=>exact Nat.le_refl _
 | cons x l ih =>
  rw [List.flatMap_cons,List.length_append,List.length_cons]
  cases x with
  | nm row p y=>simp only [List.length_cons,List.length_nil]; omega
  | _=>simp only [List.length_nil]; omega
theorem qaB {d:Nat} {t:Toks} {x:Ex×Toks} (h:ex d t=.ok x):(plE x.1).length+x.2.length<=t.length:=by
 rw [ex_E] at h
 have h1:=qlm h
 have h2:=qnp x.1
 omega
theorem qjw {d:Nat} {t:Toks} {x:Cell×Toks} (h:cell d t=.ok x):(plC x.1).length+x.2.length<=t.length:=by
 unfold cell at h
 obtain ⟨y,hy,h⟩:=qb h
 have h0:=jV hy
 split at h
 ·rename_i hb
  have h3:=zJ hb
  split at h
  ·cases h
  ·obtain ⟨z,hz,h⟩:=qb h
   obtain ⟨r,hr,rfl⟩:=qj h
   have h1:=qaB hz
   have h2:=take_len hr
   show (plE z.1++[y.1.1]).length+r.length<=_
   rw [List.length_append,List.length_singleton]
   omega
 ·injection h with h; subst h
  show 1+y.2.length<=_
  omega
theorem qix:∀ (f:Nat) (t:Toks) (x:List (Nat×Bytes)×Toks),names f t=.ok x->x.1.length+x.2.length<=t.length
 | 0,_,_,h=>absurd h (by rw [names]; exact qO)
 | f+1,t,x,h=>by
  rw [names] at h
  obtain ⟨y,hy,h⟩:=qb h
  have h0:=jV hy
  split at h
  ·rename_i hb
   have h3:=zJ hb
   obtain ⟨z,hz,rfl⟩:=qj h
   have h1:=qix f _ _ hz
   show (y.1 :: z.1).length+z.2.length<=_
   rw [List.length_cons]
   omega
  ·injection h with h; subst h
   show 1+y.2.length<=_
   omega
theorem qml {t:Toks} {x:List (Nat×Bytes)×Toks} (h:argsAt t=.ok x):x.1.length+x.2.length+1<=t.length:=by
 unfold argsAt at h
 obtain ⟨u,hu,h⟩:=qb h
 have h0:=take_len hu
 split at h
 ·injection h with h; subst h
  show 0+(u.drop 1).length+1<=_
  rw [List.length_drop]
  omega
 ·obtain ⟨y,hy,h⟩:=qb h
  obtain ⟨r,hr,rfl⟩:=qj h
  have h1:=qix _ _ _ hy
  have h2:=take_len hr
  show y.1.length+r.length+1<=_
  omega
theorem qj6 (n:Nat) (x:St):plB (n+1) [x]=plS (plB n) x:=by rw [plB,List.flatMap_cons,List.flatMap_nil,List.append_nil]
theorem qmg (n:Nat) (x:St) (l:List St):plB n (x :: l)=plB n [x]++plB n l:=by
 cases n with
 | zero=>rfl
 | succ n=>rw [qj6,plB,plB,List.flatMap_cons]
theorem qlr:∀ (f:Nat),(∀ d t x,statement f d t=.ok x->∀ n,(plB n [x.1]).length+x.2.length<=t.length)/\(∀ d t x,block f d t=.ok x->∀ n,(plB n x.1).length+x.2.length<=t.length)/\(∀ d t x,rest f d t=.ok x->∀ n,(plB n x.1).length+x.2.length<=t.length)
 | 0=>⟨fun _ _ _ h=>absurd h (by rw [statement]; exact qO),fun _ _ _ h=>absurd h (by rw [block]; exact qO),fun _ _ _ h=>absurd h (by rw [rest]; exact qO)⟩
 | f+1=>by
  obtain ⟨is,ib,ir⟩:=qlr f
  refine ⟨fun d t x h n=>?_,fun d t x h n=>?_,fun d t x h n=>?_⟩
  ·cases n with
   | zero =>
    have:=((vf (f+1)).1 _ _ _ h).1.length_le
    show 0+_<=_
    omega
   | succ n =>
    rw [qj6]
    have dl:(t.drop 1).length<=t.length:=by rw [List.length_drop]; omega
    rw [statement] at h
    try dsimp only at h
    split at h
    ·obtain ⟨r,hr,rfl⟩:=qj h
     have:=take_len hr
     show 0+r.length<=_
     omega
    ·split at h
     ·obtain ⟨c,hc,h⟩:=qb h
      obtain ⟨a,ha,h⟩:=qb h
      obtain ⟨u,hu,h⟩:=qb h
      obtain ⟨b,hb,h⟩:=qb h
      obtain ⟨v,hv,h⟩:=qb h
      obtain ⟨e,he,h⟩:=qb h
      obtain ⟨r,hr,rfl⟩:=qj h
      have h1:=qaB hc
      have h2:=ib _ _ _ ha n
      have h3:=(ji hu).length_le
      have h4:=ib _ _ _ hb n
      have h5:=(ji hv).length_le
      have h6:=qaB he
      have h7:=take_len hr
      show (plE c.1++(plB n a.1++(plB n b.1++plE e.1))).length+r.length<=_
      simp only [List.length_append]
      omega
     ·split at h
      ·obtain ⟨c,hc,h⟩:=qb h
       obtain ⟨w,hw,h⟩:=qb h
       obtain ⟨a,ha,h⟩:=qb h
       obtain ⟨u,hu,h⟩:=qb h
       obtain ⟨b,hb,h⟩:=qb h
       obtain ⟨v,hv,h⟩:=qb h
       obtain ⟨e,he,h⟩:=qb h
       obtain ⟨r,hr,rfl⟩:=qj h
       have h0:=(ji hw).length_le
       have h1:=qaB hc
       have h2:=ib _ _ _ ha n
       have h3:=(ji hu).length_le
       have h4:=ib _ _ _ hb n
       have h5:=(ji hv).length_le
       have h6:=qaB he
       have h7:=take_len hr
       show (plE c.1++(plB n a.1++(plB n b.1++plE e.1))).length+r.length<=_
       simp only [List.length_append]
       omega
      ·split at h
       ·obtain ⟨y,hy,h⟩:=qb h
        obtain ⟨a,ha,h⟩:=qb h
        obtain ⟨r,hr,rfl⟩:=qj h
        have h1:=jV hy
        have h2:=qml ha
        have h3:=take_len hr
        show (y.1.1 :: a.1.map (·.1)).length+r.length<=_
        rw [List.length_cons,List.length_map]
        omega
       ·split at h
        ·obtain ⟨y,hy,h⟩:=qb h
         obtain ⟨u,hu,h⟩:=qb h
         obtain ⟨e,he,h⟩:=qb h
         obtain ⟨a,ha,h⟩:=qb h
         obtain ⟨v,hv,h⟩:=qb h
         obtain ⟨g,hg,h⟩:=qb h
         obtain ⟨r,hr,rfl⟩:=qj h
         have h1:=jV hy
         have h2:=take_len hu
         have h3:=qaB he
         have h4:=ib _ _ _ ha n
         have h5:=(ji hv).length_le
         have h6:=qaB hg
         have h7:=take_len hr
         show (y.1.1 :: (plE e.1++(plB n a.1++plE g.1))).length+r.length<=_
         simp only [List.length_append,List.length_cons]
         omega
        ·obtain ⟨a,ha,h⟩:=qb h
         have h1:=qjw ha
         have upd:∀ {o:Change} {u:Toks},u.length<=a.2.length->((ex d u).bind fun e=>(take_ ";" e.2).map fun v=>(St.set a.1 o e.1,v))=.ok x->(plS (plB n) x.1).length+x.2.length<=t.length:=fun {o u} hu h=>by
          obtain ⟨e,he,h⟩:=qb h
          obtain ⟨r,hr,rfl⟩:=qj h
          have h2:=qaB he
          have h3:=take_len hr
          show (plC a.1++plE e.1).length+r.length<=_
          rw [List.length_append]
          omega
         have da:(a.2.drop 1).length<=a.2.length:=by rw [List.length_drop]; omega
         split at h
         ·obtain ⟨b,hb,h⟩:=qb h
          obtain ⟨r,hr,rfl⟩:=qj h
          have h2:=qjw hb
          have h3:=take_len hr
          show (plC a.1++plC b.1).length+r.length<=_
          rw [List.length_append]
          omega
         ·split at h
          ·exact upd da h
          ·split at h
           ·exact upd da h
           ·obtain ⟨u,hu,h⟩:=qb h
            exact upd (jh hu).length_le h
  ·rw [block] at h
   split at h
   ·rename_i hb
    split at h
    ·cases h
    ·have h1:=ir _ _ _ h n
     have h2:=zJ hb
     omega
   ·exact absurd h qO
  ·rw [rest] at h
   split at h
   ·injection h with h; subst h
    have:(plB n []).length=0:=by cases n <;> rfl
    show (plB n []).length+(t.drop 1).length<=_
    rw [this,List.length_drop]
    omega
   ·obtain ⟨y,hy,h⟩:=qb h
    obtain ⟨z,hz,rfl⟩:=qj h
    have h1:=is _ _ _ hy n
    have h2:=ir _ _ _ hz n
    show (plB n (y.1 :: z.1)).length+z.2.length<=_
    rw [qmg,List.length_append]
    omega
theorem qjB {d:Nat} {t:Toks} {x:List St×Toks} (h:Bl d t=.ok x) (n:Nat):(plB n x.1).length+x.2.length<=t.length:=(qlr _).2.1 _ _ _ h n
end Ma
namespace Ma
open Sc25
theorem badl (s:Seen) (e:List PT):(bads s e).length<=(e.flatMap fun x=>match x with | .nm _ p _=>[p] | _=>[]).length:=by
 unfold bads
 induction e with
 | nil=>exact Nat.le_refl _
 | cons x l ih =>
  rw [List.flatMap_cons,List.flatMap_cons,List.length_append,List.length_append]
  cases x with
  | nm row p y =>
   have:(yP s (.nm row p y)).length<=1:=by simp only [yP]; split <;> simp
   simp only [List.length_cons,List.length_nil]
   omega
  | _=>simp only [yP,List.length_nil]; omega
theorem outl (no:List Bytes) (e:List PT):(outs no e).length<=(e.flatMap fun x=>match x with | .nm _ p _=>[p] | _=>[]).length:=by
 unfold outs
 induction e with
 | nil=>exact Nat.le_refl _
 | cons x l ih =>
  rw [List.flatMap_cons,List.flatMap_cons,List.length_append,List.length_append]
  cases x with
  | nm row p y =>
   have:(Qn no (.nm row p y)).length<=1:=by simp only [Qn]; split <;> simp
   simp only [List.length_cons,List.length_nil]
   omega
  | _=>simp only [Qn,List.length_nil]; omega
theorem qfD (s:Seen) (no:List Bytes) (a:Cell):(vX s no a).length<=2 * (plC a).length:=by
 obtain ⟨p,x,i⟩:=a
 unfold vX
 rw [List.length_append]
 cases i with
 | none =>
  have h1:=badl s (postC ⟨p,x,none⟩)
  have h2:=outl no (postC ⟨p,x,none⟩).dropLast
  have e1:(plC ⟨p,x,none⟩).length=1:=rfl
  have h1:(bads s (postC ⟨p,x,none⟩)).length<=1:=h1
  have h2:(outs no (postC ⟨p,x,none⟩).dropLast).length<=0:=h2
  omega
 | some i =>
  have h1:=badl s (postC ⟨p,x,some i⟩)
  have h2:=outl no (postC ⟨p,x,some i⟩).dropLast
  have e0:postC ⟨p,x,some i⟩=post i++[.nm true p x]:=rfl
  have e1:(plC ⟨p,x,some i⟩).length=(plE i).length+1:=by show (plE i++[p]).length=_; simp
  rw [e0] at h1 h2 ⊢
  rw [List.dropLast_concat] at h2 ⊢
  rw [List.flatMap_append,List.length_append] at h1
  have h1:_<=(plE i).length+1:=h1
  have h2:_<=(plE i).length:=h2
  omega
theorem qgw:∀ (l:List (Nat×Bytes)) (met:List Bytes),(tw met l).length<=l.length
 | [],_=>Nat.le_refl _
 | (p,x) :: r,met=>by
  have ih:=qgw r (met++[x])
  rw [tw,List.length_append,List.length_cons]
  split <;> simp <;> omega
theorem qiu (s:Seen):∀ (args:List (Nat×Bytes)) (ps:List Decl) (met:List Bytes),(vV s met args ps).length<=2 * args.length
 | [],_,_=>by simp [vV]
 | _ :: _,[],_=>by simp [vV]
 | (p,x) :: r,dc :: ds,met=>by
  have ih:=qiu s r ds (met++[x])
  rw [vV,List.length_append,List.length_append,List.length_cons]
  have h1:(if s.lookup x=some dc.row.isSome then [] else [p]:List Nat).length<=1:=by split <;> simp
  have h2:(if met.contains x=true then [p] else []:List Nat).length<=1:=by split <;> simp
  omega
theorem qgY {α:Type} {f g:α->List Nat}:∀ {l:List α},(∀ x ∈ l,(f x).length<=2 * (g x).length)->(l.flatMap f).length<=2 * (l.flatMap g).length
 | [],_=>Nat.le_refl _
 | a :: r,h=>by
  rw [List.flatMap_cons,List.flatMap_cons,List.length_append,List.length_append]
  have h1:=h a List.mem_cons_self
  have h2:=qgY (l:=r) fun x hx=>h x (List.mem_cons_of_mem _ hx)
  omega
theorem qjn (P:Prog):∀ (f:Nat) (s:Seen) (l:List St),(bW P f s l).length<=2 * (plB f l).length
 | 0,_,_=>by simp [bW]
 | f+1,s,l=>by
  rw [bW,plB]
  refine qgY fun x hx=>?_
  have ih:=qjn P f
  have be:∀ (s:Seen) (e:Ex),(bads s (post e)).length<=(plE e).length:=fun s e=>badl s (post e)
  have oe:∀ (no:List Bytes) (e:Ex),(outs no (post e)).length<=(plE e).length:=fun no e=>outl no (post e)
  cases x with
  | set a o e =>
   show (vX s [a.x] a++(bads s (post e)++outs [a.x] (post e))).length<=2 * (plC a++plE e).length
   have h1:=qfD s [a.x] a
   have h2:=be s e
   have h3:=oe [a.x] e
   simp only [List.length_append]
   omega
  | swap a b =>
   show (vX s [a.x,b.x] a++vX s [a.x,b.x] b).length<=2 * (plC a++plC b).length
   have h1:=qfD s [a.x,b.x] a
   have h2:=qfD s [a.x,b.x] b
   simp only [List.length_append]
   omega
  | if_ p c a b k d =>
   show (bads s (post c)++(bW P f s a++(bW P f s b++bads s (post d)))).length<=2 * (plE c++(plB f a++(plB f b++plE d))).length
   have h1:=be s c
   have h2:=be s d
   have h3:=ih s a
   have h4:=ih s b
   simp only [List.length_append]
   omega
  | from_ p c a b k d =>
   show (bads s (post c)++(bW P f s a++(bW P f s b++bads s (post d)))).length<=2 * (plE c++(plB f a++(plB f b++plE d))).length
   have h1:=be s c
   have h2:=be s d
   have h3:=ih s a
   have h4:=ih s b
   simp only [List.length_append]
   omega
  | call un p g args =>
   show (match P.proc g with
    | some d=>if d.params.length=args.length then vV s [] args d.params else [p]
    | none=>[p]).length<=2 * (p :: args.map (·.1)).length
   rw [List.length_cons,List.length_map]
   cases P.proc g with
   | none=>simp only [List.length_singleton]; omega
   | some d =>
    have h1:=qiu s args d.params []
    by_cases hl:d.params.length=args.length
    ·simp only [hl,if_true]
     omega
    ·simp only [hl,if_false,List.length_singleton]
     omega
  | local_ p k y e a r d =>
   show (if (s.lookup y).isSome=true then [k] else bads s (post e)++(bads s (post d)++bW P f ((y,false) :: s) a)).length<=2 * (k :: (plE e++(plB f a++plE d))).length
   have h1:=be s e
   have h2:=be s d
   have h3:=ih ((y,false) :: s) a
   split
   ·simp only [List.length_cons,List.length_nil]; omega
   ·simp only [List.length_append,List.length_cons]; omega
  | skip=>exact Nat.zero_le _
end Ma
namespace Ma
open Sc25
theorem qie:∀ (f:Nat) (t:Toks) (x:List Decl×Toks),decls f t=.ok x->x.1.length+x.2.length<=t.length
 | 0,_,_,h=>absurd h (by rw [decls]; exact qO)
 | f+1,t,x,h=>by
  rw [Ul] at h
  obtain ⟨y,hy,h⟩:=qb h
  have h0:=Gm hy
  split at h
  ·rename_i hb
   have h3:=zJ hb
   obtain ⟨z,hz,rfl⟩:=qj h
   have h1:=qie f _ _ hz
   show (y.1 :: z.1).length+z.2.length<=_
   rw [List.length_cons]
   omega
  ·injection h with h; subst h
   show 1+y.2.length<=_
   omega
theorem qhe:∀ (f:Nat) (t:Toks) (x:List Decl×Toks),params f t=.ok x->x.1.length+x.2.length<=t.length
 | 0,_,_,h=>absurd h (by rw [params]; exact qO)
 | f+1,t,x,h=>by
  rw [Gp] at h
  obtain ⟨y,hy,h⟩:=qb h
  have h0:=Gy hy
  split at h
  ·rename_i hb
   have h3:=zJ hb
   obtain ⟨z,hz,rfl⟩:=qj h
   have h1:=qhe f _ _ hz
   show (y.1 :: z.1).length+z.2.length<=_
   rw [List.length_cons]
   omega
  ·injection h with h; subst h
   show 1+y.2.length<=_
   omega
theorem qk2 {t:Toks} {x:List Decl×Toks} (h:GC t=.ok x):x.1.length+x.2.length<=t.length:=by
 unfold GC at h
 split at h
 ·obtain ⟨y,hy,h⟩:=qb h
  obtain ⟨r,hr,rfl⟩:=qj h
  have h1:=qie _ _ _ hy
  have h2:=take_len hr
  have h3:(t.drop 1).length<=t.length:=by rw [List.length_drop]; omega
  show y.1.length+r.length<=_
  omega
 ·injection h with h; subst h
  show 0+t.length<=_
  omega
def prW (n:Nat) (p:Proc):List Nat:=p.p :: (p.params.map (·.p)++plB n p.body)
theorem qlX {t:Toks} {x:Proc×Toks} (h:Yk t=.ok x) (n:Nat):(prW n x.1).length+x.2.length<=t.length:=by
 unfold Yk at h
 obtain ⟨y,hy,h⟩:=qb h
 obtain ⟨u,hu,h⟩:=qb h
 obtain ⟨a,ha,h⟩:=qb h
 obtain ⟨l,hl,rfl⟩:=qj h
 have h1:=jV hy
 have h2:=take_len hu
 have h3:=qjB hl n
 have h4:a.1.length+a.2.length<=u.length:=by
  unfold qgz at ha
  split at ha
  ·injection ha with ha; subst ha
   show 0+(u.drop 1).length<=_
   rw [List.length_drop]; omega
  ·obtain ⟨z,hz,ha⟩:=qb ha
   obtain ⟨v,hv,rfl⟩:=qj ha
   have q1:=qhe _ _ _ hz
   have q2:=take_len hv
   show z.1.length+v.length<=_
   omega
 have h5:(t.drop 1).length<=t.length:=by rw [List.length_drop]; omega
 show (y.1.1 :: (a.1.map (·.p)++plB n l.1)).length+l.2.length<=_
 rw [List.length_cons,List.length_append,List.length_map]
 omega
theorem qfI (n:Nat):∀ (f:Nat) (t:Toks) (x:List Proc×Toks),procs f t=.ok x->(x.1.flatMap (prW n)).length+x.2.length<=t.length
 | 0,_,_,h=>absurd h (by rw [procs]; exact qO)
 | f+1,t,x,h=>by
  rw [Uy] at h
  split at h
  ·obtain ⟨y,hy,h⟩:=qb h
   obtain ⟨z,hz,rfl⟩:=qj h
   have h1:=qlX hy n
   have h2:=qfI n f _ _ hz
   show ((y.1 :: z.1).flatMap (prW n)).length+z.2.length<=_
   rw [List.flatMap_cons,List.length_append]
   omega
  ·injection h with h; subst h
   show 0+t.length<=_
   omega
theorem qkP {t:Toks} {x:Prog×Toks} (h:vY t=.ok x):(broken x.1).length<=3 * t.length:=by
 unfold vY at h
 obtain ⟨g,hg,h⟩:=qb h
 obtain ⟨p,hp,h⟩:=qb h
 obtain ⟨u,hu,h⟩:=qb h
 obtain ⟨l,hl,h⟩:=qb h
 split at h
 ·injection h with h; subst h
  have h1:=qk2 hg
  have h2:=qfI (DEEP+1) _ _ _ hp
  have h3:=(ji hu).length_le
  have h4:=qjB hl (DEEP+1)
  have a1:=qgw (p.1.map fun d=>(d.p,d.name)) []
  have a2:=qgw (g.1.map fun d=>(d.p,d.x)) []
  have a3:=qjn ⟨g.1,p.1,l.1⟩ (DEEP+1) (seen g.1) l.1
  have a4:(p.1.flatMap fun d=>tw [] (d.params.map fun y=>(y.p,y.x))++bW ⟨g.1,p.1,l.1⟩ (DEEP+1) (seen d.params) d.body).length<=2 * (p.1.flatMap (prW (DEEP+1))).length:=qgY fun d hd=>by
   have b1:=qgw (d.params.map fun y=>(y.p,y.x)) []
   have b2:=qjn ⟨g.1,p.1,l.1⟩ (DEEP+1) (seen d.params) d.body
   unfold prW
   rw [List.length_append,List.length_cons,List.length_append,List.length_map]
   rw [List.length_map] at b1
   omega
  have a5:p.1.length<=(p.1.flatMap (prW (DEEP+1))).length:=by
   generalize p.1=ps
   induction ps with
   | nil=>exact Nat.le_refl _
   | cons d ps ih =>
    rw [List.flatMap_cons,List.length_append,List.length_cons]
    have:1<=(prW (DEEP+1) d).length:=by unfold prW; rw [List.length_cons]; omega
    omega
  rw [List.length_map] at a1 a2
  unfold broken
  simp only [List.length_append]
  omega
 ·exact absurd h qO
end Ma
namespace Ma
open Sc25
def dpS (db:List St->Prop):St->Prop
 | .if_ _ _ a b _ _=>db a/\db b
 | .from_ _ _ a b _ _=>db a/\db b
 | .local_ _ _ _ _ a _ _=>db a
 | _=>True
def dpB:Nat->List St->Prop
 | 0,_=>False
 | d+1,l=>∀ x ∈ l,dpS (dpB d) x
theorem qkw:∀ (f:Nat),(∀ d t x,statement f d t=.ok x->dpS (dpB d) x.1)/\(∀ d t x,block f d t=.ok x->dpB d x.1)/\(∀ d t x,rest f d t=.ok x->∀ y ∈ x.1,dpS (dpB d) y)
 | 0=>⟨fun _ _ _ h=>absurd h (by rw [statement]; exact qO),fun _ _ _ h=>absurd h (by rw [block]; exact qO),fun _ _ _ h=>absurd h (by rw [rest]; exact qO)⟩
 | f+1=>by
  obtain ⟨is,ib,ir⟩:=qkw f
  refine ⟨fun d t x h=>?_,fun d t x h=>?_,fun d t x h=>?_⟩
  ·rw [statement] at h
   try dsimp only at h
   split at h
   ·obtain ⟨r,hr,rfl⟩:=qj h
    exact True.intro
   ·split at h
    ·obtain ⟨c,hc,h⟩:=qb h
     obtain ⟨a,ha,h⟩:=qb h
     obtain ⟨u,hu,h⟩:=qb h
     obtain ⟨b,hb,h⟩:=qb h
     obtain ⟨v,hv,h⟩:=qb h
     obtain ⟨e,he,h⟩:=qb h
     obtain ⟨r,hr,rfl⟩:=qj h
     exact ⟨ib _ _ _ ha,ib _ _ _ hb⟩
    ·split at h
     ·obtain ⟨c,hc,h⟩:=qb h
      obtain ⟨w,hw,h⟩:=qb h
      obtain ⟨a,ha,h⟩:=qb h
      obtain ⟨u,hu,h⟩:=qb h
      obtain ⟨b,hb,h⟩:=qb h
      obtain ⟨v,hv,h⟩:=qb h
      obtain ⟨e,he,h⟩:=qb h
      obtain ⟨r,hr,rfl⟩:=qj h
      exact ⟨ib _ _ _ ha,ib _ _ _ hb⟩
     ·split at h
      ·obtain ⟨y,hy,h⟩:=qb h
       obtain ⟨a,ha,h⟩:=qb h
       obtain ⟨r,hr,rfl⟩:=qj h
       exact True.intro
      ·split at h
       ·obtain ⟨y,hy,h⟩:=qb h
        obtain ⟨u,hu,h⟩:=qb h
        obtain ⟨e,he,h⟩:=qb h
        obtain ⟨a,ha,h⟩:=qb h
        obtain ⟨v,hv,h⟩:=qb h
        obtain ⟨g,hg,h⟩:=qb h
        obtain ⟨r,hr,rfl⟩:=qj h
        exact ib _ _ _ ha
       ·obtain ⟨a,ha,h⟩:=qb h
        have upd:∀ {o:Change} {u:Toks},((ex d u).bind fun e=>(take_ ";" e.2).map fun v=>(St.set a.1 o e.1,v))=.ok x->dpS (dpB d) x.1:=fun {o u} h=>by
         obtain ⟨e,he,h⟩:=qb h
         obtain ⟨r,hr,rfl⟩:=qj h
         exact True.intro
        split at h
        ·obtain ⟨b,hb,h⟩:=qb h
         obtain ⟨r,hr,rfl⟩:=qj h
         exact True.intro
        ·split at h
         ·exact upd h
         ·split at h
          ·exact upd h
          ·obtain ⟨u,hu,h⟩:=qb h
           exact upd h
  ·rw [block] at h
   split at h
   ·split at h
    ·cases h
    ·rename_i hd
     obtain ⟨d,rfl⟩:∃ e,d=e+1:=⟨d-1,by omega⟩
     exact ir _ _ _ h
   ·exact absurd h qO
  ·rw [rest] at h
   split at h
   ·injection h with h; subst h
    intro y hy
    cases hy
   ·obtain ⟨y,hy,h⟩:=qb h
    obtain ⟨z,hz,rfl⟩:=qj h
    intro q hq
    rcases List.mem_cons.mp hq with rfl | hq
    ·exact is _ _ _ hy
    ·exact ir _ _ _ hz q hq
theorem qou {d:Nat} {t:Toks} {x:List St×Toks} (h:Bl d t=.ok x):dpB d x.1:=(qkw _).2.1 _ _ _ h
theorem qjM:∀ (f:Nat) (t:Toks) (x:List Proc×Toks),procs f t=.ok x->∀ p ∈ x.1,dpB DEEP p.body
 | 0,t,x,h=>absurd h qO
 | f+1,t,x,h=>by
  rw [procs] at h
  split at h
  ·obtain ⟨n,hn,h⟩:=qb h
   obtain ⟨u,hu,h⟩:=qb h
   obtain ⟨a,ha,h⟩:=qb h
   obtain ⟨l,hl,h⟩:=qb h
   obtain ⟨r,hr,rfl⟩:=qj h
   intro p hp
   rcases List.mem_cons.mp hp with rfl | hp
   ·exact (qkw _).2.1 _ _ _ hl
   ·exact qjM f _ _ hr p hp
  ·injection h with h; subst h
   intro p hp
   cases hp
theorem qnm {t:Toks} {x:Prog×Toks} (h:vY t=.ok x):dpB DEEP x.1.main/\∀ p ∈ x.1.procs,dpB DEEP p.body:=by
 unfold vY at h
 obtain ⟨g,hg,h⟩:=qb h
 obtain ⟨p,hp,h⟩:=qb h
 obtain ⟨u,hu,h⟩:=qb h
 obtain ⟨l,hl,h⟩:=qb h
 split at h
 ·injection h with h; subst h
  exact ⟨qou hl,qjM _ _ _ hp⟩
 ·exact absurd h qO
end Ma
namespace Ma
open Sc25
structure Few (pg:Prog):Prop where
 gl:pg.globals.length<=70000
 pr:pg.procs.length<=70000
 mn:(plB 33 pg.main).length<=70000
 pp:∀ p ∈ pg.procs,p.params.length<=70000/\(plB 33 p.body).length<=70000
 dm:dpB 32 pg.main
 dp:∀ p ∈ pg.procs,dpB 32 p.body
 br:(broken pg).length<=400000
theorem qiZ {α:Type} {g:α->List Nat}:∀ {l:List α} {x:α},x ∈ l->(g x).length<=(l.flatMap g).length
 | a :: l,x,h=>by
  rw [List.flatMap_cons,List.length_append]
  rcases List.mem_cons.mp h with rfl | h
  ·omega
  ·have:=qiZ (g:=g) h
   omega
theorem qiJ {α:Type} {g:α->List Nat} (h:∀ x,1<=(g x).length):∀ l:List α,l.length<=(l.flatMap g).length
 | []=>Nat.le_refl _
 | a :: l=>by
  rw [List.flatMap_cons,List.length_append,List.length_cons]
  have:=qiJ h l
  have:=h a
  omega
theorem qmY {t:Toks} {x:Prog×Toks} (h:vY t=.ok x) (ht:t.length<=70000):Few x.1:=by
 have hb:=qkP h
 have hd:=qnm h
 unfold vY at h
 obtain ⟨g,hg,h⟩:=qb h
 obtain ⟨p,hp,h⟩:=qb h
 obtain ⟨u,hu,h⟩:=qb h
 obtain ⟨l,hl,h⟩:=qb h
 split at h
 ·injection h with h; subst h
  have h1:=qk2 hg
  have h2:=qfI 33 _ _ _ hp
  have h3:=(ji hu).length_le
  have h4:=qjB hl 33
  have h5:=qiJ (g:=prW 33) (fun x=>by unfold prW; rw [List.length_cons]; omega) p.1
  have ps:∀ q ∈ p.1,q.params.length<=70000/\(plB 33 q.body).length<=70000:=fun q hq=>by
   have:=qiZ (g:=prW 33) hq
   unfold prW at this h2
   simp only [List.length_cons,List.length_append,List.length_map] at this
   omega
  exact ⟨by show g.1.length<=_; omega,by show p.1.length<=_; omega,by show (plB 33 l.1).length<=_; omega,ps,hd.1,hd.2,by omega⟩
 ·exact absurd h qO
end Ma
namespace Ma
open Sc25
theorem qlA:∀ (f k:Nat) (b:Bytes),(toksFrom f k b).length<=b.length+1
 | 0,_,_=>by simp [toksFrom]
 | f+1,k,[]=>by simp [toksFrom]
 | f+1,k,c :: r=>by
  have ih:=qlA f
  have dl:∀ n,1<=n->((c :: r).drop n).length+1<=(c :: r).length:=fun n hn=>by
   rw [List.length_drop,List.length_cons]; omega
  rw [toksFrom]
  split
  ·have:=ih (k+1) r
   rw [List.length_cons]; omega
  ·split
   ·rename_i h1 h2
    have h:=ih (k+((c :: r).takeWhile fun x=>x != 10).length) ((c :: r).drop ((c :: r).takeWhile fun x=>x != 10).length)
    have h3:((c :: r).drop ((c :: r).takeWhile fun x=>x != 10).length).length<=(c :: r).length:=by rw [List.length_drop]; omega
    show (toksFrom f (k+((c :: r).takeWhile fun x=>x != 10).length) ((c :: r).drop ((c :: r).takeWhile fun x=>x != 10).length)).length<=_
    omega
   ·split
    ·rename_i h1 h2 h3
     have hw:1<=((c :: r).takeWhile isWord).length:=by
      have:isWord c=true:=by unfold isWord; rw [h3]; rfl
      rw [List.takeWhile_cons,if_pos this,List.length_cons]; omega
     have h:=ih (k+((c :: r).takeWhile isWord).length) ((c :: r).drop ((c :: r).takeWhile isWord).length)
     have:=dl _ hw
     show (_ :: toksFrom f (k+((c :: r).takeWhile isWord).length) ((c :: r).drop ((c :: r).takeWhile isWord).length)).length<=_
     rw [List.length_cons]; omega
    ·split
     ·rename_i h1 h2 h3 h4
      have hw:1<=((c :: r).takeWhile isDigit).length:=by
       rw [List.takeWhile_cons,if_pos h4,List.length_cons]; omega
      have h:=ih (k+((c :: r).takeWhile isDigit).length) ((c :: r).drop ((c :: r).takeWhile isDigit).length)
      have:=dl _ hw
      show (_ :: toksFrom f (k+((c :: r).takeWhile isDigit).length) ((c :: r).drop ((c :: r).takeWhile isDigit).length)).length<=_
      rw [List.length_cons]; omega
     ·split
      ·rename_i s hs
       have hm:=List.mem_of_find?_eq_some hs
       have hw:1<=s.length:=by
        have all:∀ s ∈ signs,1<=s.length:=by decide
        exact all s hm
       have h:=ih (k+s.length) ((c :: r).drop s.length)
       have:=dl _ hw
       rw [List.length_cons]; omega
      ·simp
theorem qmV (b:Bytes):(strm b 0).length<=b.length+1:=by
 rw [<- qiz]
 exact qlA _ _ _
theorem qkH {t:Toks} (h:qG t=true):vY t=.error .full:=by
 unfold vY GC
 rw [qe4 h,if_neg (by decide)]
 show (Pr t).bind _=_
 rw [<- qhT,qjq h]
 show (key "main" t).bind _=_
 rw [ZC h]
 rfl
def dueG (r:Got Prog):Taken:=match r with
 | .error (.wrong k)=>.bad (-100-(k:Int))
 | .error .full=>.bad (-5)
 | .ok x=>match least (broken x.1) with
  | some k=>.bad (-1000000-(k:Int))
  | none=>if small x.1=true then .good x.1 else .bad (-5)
theorem qlC (b:Bytes):taken b=dueG (vY (strm b 0)):=by
 unfold taken
 have e:program (toks b)=(vY (strm b 0)).map (·.1):=by rw [qiz]; exact qog _
 cases hp:vY (strm b 0) with
 | error z =>
  rw [hp] at e
  have e:program (toks b)=.error z:=e
  rw [e]
  cases z <;> rfl
 | ok x =>
  rw [hp] at e
  have e:program (toks b)=.ok x.1:=e
  have hl:=qjt e
  rw [e]
  show (match least (allWrong x.1) with
   | some k=>Taken.bad (-1000000-(k:Int))
   | none=>if small x.1=true then .good x.1 else .bad (-5))=_
  rw [<- hl]
  rfl
theorem qjL:∀ (l:List Nat) (a:Nat),(l.foldl min a=a\/l.foldl min a ∈ l)/\l.foldl min a<=a/\∀ y ∈ l,l.foldl min a<=y
 | [],a=>⟨.inl rfl,Nat.le_refl _,fun _ h=>by cases h⟩
 | x :: l,a=>by
  obtain ⟨h1,h2,h3⟩:=qjL l (min a x)
  show ((l.foldl min (min a x)=a\/_)/\_)
  refine ⟨?_,Nat.le_trans h2 (Nat.min_le_left _ _),fun y hy=>?_⟩
  ·rcases h1 with h1 | h1
   ·rw [List.foldl_cons,h1]
    by_cases q:a<=x
    ·exact .inl (Nat.min_eq_left q)
    ·refine .inr ?_
     rw [Nat.min_eq_right (by omega)]
     exact List.mem_cons_self
   ·exact .inr (List.mem_cons_of_mem _ h1)
  ·rcases List.mem_cons.mp hy with rfl | hy
   ·exact Nat.le_trans h2 (Nat.min_le_right _ _)
   ·exact h3 y hy
theorem qmk {l:List Nat} {k:Nat} (h:k ∈ l) (m:∀ y ∈ l,k<=y):least l=some k:=by
 cases l with
 | nil=>cases h
 | cons x r =>
  obtain ⟨h1,h2,h3⟩:=qjL r x
  show some (r.foldl min x)=some k
  congr 1
  apply Nat.le_antisymm
  ·rcases List.mem_cons.mp h with rfl | h
   ·exact h2
   ·exact h3 k h
  ·rcases h1 with h1 | h1
   ·rw [h1]; exact m x List.mem_cons_self
   ·exact m _ (List.mem_cons_of_mem _ h1)
theorem qk9:least []=none:=rfl
theorem qlM {t:Toks} {x:Prog×Toks} (h:vY t=.ok x):qG x.2=false:=by
 unfold vY at h
 obtain ⟨g,hg,h⟩:=qb h
 obtain ⟨p,hp,h⟩:=qb h
 obtain ⟨u,hu,h⟩:=qb h
 obtain ⟨l,hl,h⟩:=qb h
 split at h
 ·rename_i ha
  injection h with h; subst h
  show qG l.2=false
  cases hq:qG l.2 with
  | false=>rfl
  | true =>
   obtain ⟨p,r,e⟩:=Zz hq
   rw [e] at ha
   cases r <;> cases ha
 ·exact absurd h qO
end Ma
namespace Xc
open PySem
structure qeG (h:Heap) (e T:Addr) (oe:Obj):Prop where
 here:h.get? e=some oe
 fld:∃ vs,oe.data=.fields vs/\vs[1]?=some (.ref T)
 ne:T≠e
 tb:∃ oT ts,h.get? T=some oT/\oT.data=.fields ts/\ts[3]?=some .none
structure After (fs:List Addr) (e:Addr) (oe:Obj) (h h':Heap):Prop where
 keep:∀ b o,h.get? b=some o->b ∉ fs->b≠e->h'.get? b=some o
 slot:∀ b o,h.get? b=some o->b ∈ fs->∃ sl,h'.get? b=some { o with slots:=sl }
 aloft:∃ T oe',qeG h' e T oe'/\oe'.cls=oe.cls/\oe'.dict=oe.dict/\h.objs.size<=T
 size:h.objs.size<=h'.objs.size
abbrev frl (l:List Env):List Addr:=l.filterMap (·.frame)
abbrev qkD (head:Value) (L:Addr) (pl:List Value):Obj :=
 { cls:=.type "traceback",dict:=none,data:=.fields ([head,.ref L,.none,rawInt L,.none]++(if pl.isEmpty then List.replicate 6 Value.none else pl)).toArray }
theorem qfu {h base:Heap} {l:List Env} {e:Addr} {oe:Obj} {vs:Array Value} (hl:h.FunFrames base l) (he:h.get? e=some oe) (hd:oe.data=.fields vs):e ∉ frl l:=fun hm=>by
 obtain ⟨_,o,ho,hn⟩:=hl.mem hm
 obtain rfl:oe=o:=Option.some.inj (he.symm.trans ho)
 exact hn vs hd
theorem qlG (o:Obj) (g:Array Value->Array Value):(Obj.mapFields g o).dict=o.dict:=by
 obtain ⟨c,d,dt,sl⟩:=o
 cases dt <;> rfl
section
variable {M:Model} {A:Around} {E:Value->Shared->Prop} {s:Shared}
theorem entry_all {base:Heap} {env:Env} {outer:List Env} {L e:Addr} {oe:Obj} {vs:Array Value} {head:Value} {hadNext:Bool} {Q:Unit->Shared->Prop}
  (hfr:A.frames=some (env :: outer)) (hl:s.heap.FunFrames base (env :: outer)) (hf:env.frame=some L) (he:s.heap.get? e=some oe) (hd:oe.data=.fields vs) (hz:1 < vs.size)
  (k:∀ h',After (frl (env :: outer)) e oe s.heap h'->Q () { s with heap:=h' }) :
  wpAny M A (do
   let a <- frameOf env
   let pl <- entryPlaceOf L hadNext
   let b <- EntryCells.newEntry head a .none (rawInt L) .none pl
   setField (.ref e) 1 b) (fun _ s'=>wpAny M A (setFlight (.ref e) none) Q E s') E s:=by
 have nf:=qfu hl he hd
 refine wpAny_bind (wpAny_frameOf_fun hfr hl hf fun h1 so=>?_)
 refine wpAny_bind (wpAny_entryPlaceOf fun pl hpl=>?_)
 unfold EntryCells.newEntry newFields
 refine wpAny_bind (wpAny_newObj_type ?_ (hpl.sizeOk5 _ _ _ _ _))
 have e1:h1.get? e=some oe:=(so.2.1 e nf).trans he
 have e2:=Heap.get?_push_of_some (h:=h1) (qkD head L pl) e1
 refine wpAny_setField e2 hd hz ?_
 have nT:h1.objs.size≠e:=Nat.ne_of_gt (Heap.lt_size e1)
 have d3:=Obj.data_mapFields hd (·.setIfInBounds 1 (Value.ref h1.objs.size))
 have e3:=Heap.get?_update_self (Obj.mapFields (·.setIfInBounds 1 (Value.ref h1.objs.size))) e2 (Obj.isFreed_of_fields d3)
 have T3:=(Heap.get?_update_other (h1.push (qkD head L pl)) (Obj.mapFields (·.setIfInBounds 1 (Value.ref h1.objs.size))) (Ne.symm nT)).trans (Heap.get?_push_size h1 rfl)
 unfold setFlight
 refine wpAny_bind (wpAny_field e3 d3 (x:=.ref h1.objs.size) (by simp [hz]) ?_)
 rw [if_pos (show (Value.ref h1.objs.size != Value.none)=true by simp)]
 refine wpAny_setField T3 rfl (by simp only [List.size_toArray,List.length_append,List.length_cons,List.length_nil] <;> omega) (k _ ?_)
 have keep:∀ b o,b≠e->h1.get? b=some o->(((h1.push (qkD head L pl)).update e (Obj.mapFields (·.setIfInBounds 1 (Value.ref h1.objs.size)))).update h1.objs.size
   (Obj.mapFields (·.setIfInBounds 3 ((none:Option Addr).elim Value.none fun f=>rawInt f)))).get? b=some o:=fun b o nb q=>by
  rw [Heap.get?_update_other _ _ (Nat.ne_of_gt (Heap.lt_size q)),Heap.get?_update_other _ _ (Ne.symm nb)]
  exact Heap.get?_push_of_some _ q
 refine ⟨fun b o q nb ne=>keep b o ne ((so.2.1 b nb).trans q),fun b o q hb=>?_,?_,?_⟩
 ·obtain ⟨sl,hs⟩:=so.2.2 b o q
  exact ⟨sl,keep b _ (fun z=>nf (z ▸ hb)) hs⟩
 ·refine ⟨h1.objs.size,_,⟨?_,⟨_,d3,by simp [hz]⟩,nT,⟨_,_,Heap.get?_update_self _ T3 (Obj.isFreed_of_fields (Obj.data_mapFields rfl _)),Obj.data_mapFields rfl _,?_⟩⟩,Obj.cls_mapFields _ _,qlG _ _,Nat.le_of_eq so.1.symm⟩
  ·rw [Heap.get?_update_other _ _ nT]
   exact e3
  ·first | (simp; done) | (rcases hpl with rfl | ⟨_,_,_,_,_,_,_,rfl⟩ <;> simp)
 ·rw [Heap.size_after_update,Heap.size_after_update,Heap.size_push,so.1]
  exact Nat.le_succ _
theorem leave_new {base:Heap} {env:Env} {outer:List Env} {L e:Addr} {oe:Obj} {vs:Array Value} {Q:Unit->Shared->Prop}
  (hfr:A.frames=some (env :: outer)) (hl:s.heap.FunFrames base (env :: outer)) (hf:env.frame=some L) (he:s.heap.get? e=some oe) (hd:oe.data=.fields vs) (h1:vs[1]?=some .none)
  (k:∀ h',After (frl (env :: outer)) e oe s.heap h'->Q () { s with heap:=h' }):wpAny M A (leaving env (.ref e)) Q E s:=by
 unfold leaving noteFrame
 simp only [hf]
 refine wpAny_bind (wpAny_bind (wpAny_field he hd h1 ?_))
 rw [if_neg (by decide)]
 exact entry_all hfr hl hf he hd (Array.getElem?_eq_some_iff.mp h1).1 k
theorem qmf {base:Heap} {env:Env} {outer:List Env} {L e T:Addr} {oe:Obj} {Q:Unit->Shared->Prop}
  (hfr:A.frames=some (env :: outer)) (hl:s.heap.FunFrames base (env :: outer)) (hf:env.frame=some L) (a:qeG s.heap e T oe)
  (k:∀ h',(∀ b o,s.heap.get? b=some o->b ∉ frl (env :: outer)->b≠e->b≠T->h'.get? b=some o)->(∀ b o,s.heap.get? b=some o->b ∈ frl (env :: outer)->∃ sl,h'.get? b=some { o with slots:=sl }) ->
   (∃ T' oe',qeG h' e T' oe'/\oe'.cls=oe.cls/\oe'.dict=oe.dict/\s.heap.objs.size<=T')->s.heap.objs.size<=h'.objs.size->Q () { s with heap:=h' }):wpAny M A (leaving env (.ref e)) Q E s:=by
 obtain ⟨he,⟨vs,hd,h1⟩,hne,oT,ts,hT,hdT,h3⟩:=a
 have nT:=qfu hl hT hdT
 unfold leaving noteFrame
 simp only [hf]
 refine wpAny_bind (wpAny_bind (wpAny_field he hd h1 ?_))
 rw [if_pos (show (Value.ref T != Value.none)=true by simp)]
 refine wpAny_bind (wpAny_field hT hdT h3 ?_)
 rw [if_neg (show ¬ ((Value.none == rawInt L)=true) by simp [rawInt])]
 refine wpAny_bind (wpAny_setField hT hdT (Array.getElem?_eq_some_iff.mp h3).1 ?_)
 have other:∀ b,b≠T->(s.heap.update T (Obj.mapFields (·.setIfInBounds 3 Value.none))).get? b=s.heap.get? b:=fun b nb=>Heap.get?_update_other _ _ (Ne.symm nb)
 have apart:∀ b o,s.heap.get? b=some o->(∀ vs,o.data≠.fields vs)->b≠T:=fun b o q hn z=>by
  subst z
  obtain rfl:oT=o:=Option.some.inj (hT.symm.trans q)
  exact hn ts hdT
 refine entry_all (s:={ s with heap:=s.heap.update T (Obj.mapFields (·.setIfInBounds 3 Value.none)) }) hfr (hl.of_keeps fun b o q hn=>⟨o,(other b (apart b o q hn)).trans q,rfl⟩) hf ((other e (Ne.symm hne)).trans he) hd (Array.getElem?_eq_some_iff.mp h1).1 fun h' z=>?_
 have sz:(s.heap.update T (Obj.mapFields (·.setIfInBounds 3 Value.none))).objs.size=s.heap.objs.size:=Heap.size_after_update ..
 refine k h' (fun b o q n1 n2 n3=>z.keep b o ((other b n3).trans q) n1 n2) (fun b o q hb=>z.slot b o ((other b fun w=>nT (w ▸ hb)).trans q) hb) ?_ ?_
 ·have:=z.aloft
  rw [sz] at this
  exact this
 ·have:=z.size
  rw [sz] at this
  exact this
end
end Xc
namespace Xc
open PySem PySem.W
structure Tail (B:String) (bm:List Value):Prop where
 b:bm.contains (.type B)=true
 base:bm.contains (.type "BaseException")=true
 a:bm.contains (.type "AttributeError")=false
 n:bm.contains (.type "NameError")=false
section
variable {M:Model} {A:Around} {E:Value->Shared->Prop} {h:Heap} {g:Array GenState} {d:Drawn} {t:Nat} {os:OsState}
variable {nm q:Str} {C N:Addr} {bs bm bmB:List Value} {hdct:Bool} {sn:List Str} {sub:List Value} {ab:Bool} {col:Option Bool} {dd:Option Addr} {k0 k1 k2 k3 k5:Option Value} {B newId initId:String}
theorem qkQ (F:ExcBaseFacts B newId initId bmB) (T:Tail B bm) {args:List Value} {Q:Unit->Shared->Prop} (hC:h.get? C=some (excClassObj nm q C N bs bm hdct sn sub ab col dd k0 k1 k2 k3 k5 newId)) (k:Q () ⟨h,g,d,t,os⟩) :
  wpAny M A (checkBuiltinCall newId ⟨.ref C :: args,[]⟩) Q E ⟨h,g,d,t,os⟩:=by
 have has:(Value.ref C :: bm).contains (.type B)=true:=by rw [List.contains_cons,T.b,Bool.or_true]
 have star:=F.noStar
 simp only [checkBuiltinCall,F.newKind,F.newSplit,F.newRow]
 repeat (first
  | refine wpAny_loadPart_at hC ?_
  | (refine wpAny_isSubtype_exc hC ?_; rw [has])
  | refine wpAny_staticBase_exc hC ?_
  | refine wpAny_madeBy_exc hC ?_
  | simp only [bne_self_eq_false,Bool.false_eq_true,if_false]
  | wp_step)
 exact k
end
section
variable {prog:Program} {w:World} {A:Around} {h:Heap} {g:Array GenState} {d:Drawn} {t:Nat} {os:OsState}
variable {nm q:Str} {C N:Addr} {bs bm bmB:List Value} {hdct:Bool} {sn:List Str} {sub:List Value} {ab:Bool} {col:Option Bool} {dd:Option Addr} {k0 k1 k2 k3 k5:Option Value} {B newId initId:String}
abbrev Z7 (C tp:Addr):Obj:={ cls:=.ref C,data:=.fields #[.ref tp,.none,.none,.none,.bool false,.none] }
abbrev Wx (args:List Value):Obj:={ cls:=.type "tuple",data:=.seq args.toArray }
theorem qop {R:Result->Shared->Prop} (F:ExcBaseFacts B newId initId bmB) (T:Tail B bm) {args:List Value} (hC:h.get? C=some (excClassObj nm q C N bs bm hdct sn sub ab col dd k0 k1 k2 k3 k5 newId))
  (k:R (.ok (.ret (.ref (h.objs.size+1)))) ⟨(h.push (Wx args)).push (Z7 C h.objs.size),g,d,t,os⟩) (hz:args.length<=sizeLine) :
  codeAny (model prog w) A (.builtin newId ⟨.ref C :: args,[]⟩) R ⟨h,g,d,t,os⟩:=by
 have ends:=F.ends
 have b1:(Value.ref C :: bm).contains (.type B)=true:=by rw [List.contains_cons,T.b,Bool.or_true]
 have b2:(Value.ref C :: bm).contains (.type "AttributeError")=false:=by rw [List.contains_cons,T.a]; rfl
 have b3:(Value.ref C :: bm).contains (.type "NameError")=false:=by rw [List.contains_cons,T.n]; rfl
 refine codeAny_builtinAt F.entry ?_
 unfold Builtin.«BaseException.__new__»
 refine wpAt_bind ?_
 show wpAt _ _ _ (stack >>= _) _ _ _
 refine wpAt_bind (wpAt_stack fun p below=>wpAt_of_wpAny ?_)
 wp_walk
 refine wpAt_of_wpAny ?_
 rw [F.owner]
 repeat (first
  | with_reducible refine wpAny_madeHere_exc F.canon hC ?_
  | with_reducible refine wpAny_loadPart_at hC ?_
  | (with_reducible refine wpAny_isSubtype_exc hC ?_; first | rw [b1] | rw [b2] | rw [b3])
  | wp_step)
 show R _ _
 rw [Heap.size_push]
 exact k
theorem qkY {E:Value->Shared->Prop} (F:ExcBaseFacts B newId initId bmB) (T:Tail B bm) {args:List Value} {fI:Addr} {oI:Obj} {Q:Fin->Shared->Prop}
  (hC:h.get? C=some (excClassObj nm q C N bs bm hdct sn sub ab col dd k0 k1 k2 k3 k5 newId)) (hi:Looks (model prog w) h (typeLookup (.ref C) "__init__") (some (.ref fI))) (hf:h.get? fI=some oI) (hc:oI.cls=.type "function") (hz:args.length<=sizeLine)
  (k:wpAny (model prog w) A (call (.ref fI) (.ref (h.objs.size+1) :: args)) (fun r s'=>r=.none/\Q (.done (.ret (.ref (h.objs.size+1)))) s') E ⟨(h.push (Wx args)).push (Z7 C h.objs.size),g,d,t,os⟩) :
  wpAny (model prog w) A (Builtin.«type.__call__» ⟨.ref C :: args,[]⟩) Q E ⟨h,g,d,t,os⟩:=by
 repeat (first
  | with_reducible refine wpAny_loadPart_at hC ?_
  | with_reducible refine wpAny_madeBy_exc hC ?_
  | wp_step)
 refine codeAny_call_builtin_code (Code.quiet_builtin _ F.quiet) (qkQ F T hC ?_)
 refine qop F T hC ?_ hz
 show wpAny _ _ _ _ _ _
 have up:∀ {b:Addr} {o:Obj},h.get? b=some o->((h.push (Wx args)).push (Z7 C h.objs.size)).get? b=some o:=fun e=>Heap.get?_push_of_some _ (Heap.get?_push_of_some _ e)
 have C1:=up hC
 have f1:=up hf
 have i1:=hi.keeps (h':=(h.push (Wx args)).push (Z7 C h.objs.size)) fun _ _ e=>up e
 have x1:((h.push (Wx args)).push (Z7 C h.objs.size)).get? (h.objs.size+1)=some (Z7 C h.objs.size):=by heap_get
 have itself:(Value.ref C :: bm).contains (.ref C)=true:=by simp
 unfold isInstance
 repeat (first
  | with_reducible refine wpAny_loadPart_at x1 ?_
  | (with_reducible refine wpAny_isSubtype_exc C1 ?_; rw [itself])
  | wp_step)
 show wpAny _ _ (typeLookup (.ref C) _) _ _ _
 refine i1.at ?_
 refine wpAny_holding (wpAny_bind ?_)
 unfold bindSpecial
 refine wpAny_bind (wpAny_typeOf (T := "function") ⟨_,f1,hc⟩ ?_)
 rw [if_pos (by decide)]
 refine wpAny_pure (wpAny_bind (wpAny_mono k (fun r s' z=>?_) fun _ _ x=>x))
 obtain ⟨rfl,z⟩:=z
 wp_walk
 exact z
theorem qoo {E:Value->Shared->Prop} (F:ExcBaseFacts B newId initId bmB) (T:Tail B bm) {args:List Value} {fI:Addr} {oI:Obj} {Q:Value->Shared->Prop}
  (hC:h.get? C=some (excClassObj nm q C N bs bm hdct sn sub ab col dd k0 k1 k2 k3 k5 newId)) (hi:Looks (model prog w) h (typeLookup (.ref C) "__init__") (some (.ref fI))) (hf:h.get? fI=some oI) (hc:oI.cls=.type "function") (hz:args.length<=sizeLine)
  (k:wpAny (model prog w) (A.under (.builtin "type.__call__" ⟨.ref C :: args,[]⟩)) (call (.ref fI) (.ref (h.objs.size+1) :: args)) (fun r s'=>r=.none/\Q (.ref (h.objs.size+1)) s') E
   ⟨(h.push (Wx args)).push (Z7 C h.objs.size),g,d,t,os⟩):wpAny (model prog w) A (call (.ref C) args) Q E ⟨h,g,d,t,os⟩:=by
 have g1:=tc_lookup
 have g2:=tc_bind (.ref C)
 have ty:(⟨h,g,d,t,os⟩:Shared).TypeIs (.ref C) "type" := ⟨_,hC,rfl⟩
 refine wpAny_call (codeAny_of_tree ?_)
 show wpAny _ _ (callAny (.ref C) _) _ _ _
 repeat (any_goals (first
  | assumption
  | with_reducible refine wpAny_loadPart_at hC ?_
  | wp_step))
 refine ⟨rfl,codeAny_call_builtin_at (Code.quiet_builtin _ (by decide +kernel)) entry_typeCall (wpAny_check_type_call_sub hC (qkY F T hC hi hf hc hz ?_))⟩
 exact k
end
section
variable {M:Model} {A:Around} {E:Value->Shared->Prop} {env:Env}
variable {nm q:Str} {C N:Addr} {bs bm:List Value} {hdct:Bool} {sn:List Str} {sub:List Value} {ab:Bool} {col:Option Bool} {dd:Option Addr} {k0 k1 k2 k3 k5:Option Value} {newId:String}
theorem qku {s:Shared} {x:Sem Value} {Q:Flow->Shared->Prop} (hb:bm.contains (.type "BaseException")=true) (hh:A.handled=none)
  (h:wpAny M A x (fun v s1=>∃ e tp dx,v=.ref e/\s1.heap.get? C=some (excClassObj nm q C N bs bm hdct sn sub ab col dd k0 k1 k2 k3 k5 newId)/\s1.heap.get? e=some { cls:=.ref C,dict:=dx,data:=.fields #[.ref tp,.none,.none,.none,.bool false,.none] }/\E (.ref e) s1) E s) :
  wpAny M A (raiseStmt env (some x) none) Q E s:=by
 have b1:(Value.ref C :: bm).contains (.type "BaseException")=true:=by rw [List.contains_cons,hb,Bool.or_true]
 unfold raiseStmt
 refine wpAny_bind (wpAny_mono h (fun v s1 z=>?_) fun _ _ x=>x)
 obtain ⟨e,tp,dx,rfl,hC,he,hE⟩:=z
 obtain ⟨hp,g,d,tk,os⟩:=s1
 repeat (first
  | with_reducible refine wpAny_loadPart_at he ?_
  | with_reducible refine wpAny_loadPart_at hC ?_
  | (with_reducible refine wpAny_isSubtype_exc hC ?_; rw [b1])
  | wp_step)
 exact wpAny_raiseNew_none hh hE
end
end Xc
set_option maxHeartbeats 1000000
namespace Xc
open PySem PySem.W PyProof.Rows Builtin Builtin.ObjectAttr
abbrev excAt (C tp:Addr) (dx:Option Addr):Obj:={ cls:=.ref C,dict:=dx,data:=.fields #[.ref tp,.none,.none,.none,.bool false,.none] }
def WN:List Value->Bool
 | .ref _ :: r=>WN r
 | l=>l == [.type "Exception",.type "BaseException",.type "object"]
theorem qgM (self:Value):∀ {l:List Value},WN l=true->refuseLoop self "__setattr__" l=pure ()
 | .ref c :: r,h=>by rw [refuseLoop_ref]; exact qgM self h
 | [],h=>by cases h
 | .type n :: r,h=>by
  have e:Value.type n :: r=[.type "Exception",.type "BaseException",.type "object"]:=beq_iff_eq.mp h
  rw [e]
  exact PySem.F.store_Exception.passes self
 | .none :: r,h=>by
  have e:Value.none :: r=[.type "Exception",.type "BaseException",.type "object"]:=beq_iff_eq.mp h
  cases e
 | .bool _ :: r,h=>by
  have e:(_ :: r:List Value)=[.type "Exception",.type "BaseException",.type "object"]:=beq_iff_eq.mp h
  cases e
 | .int _ _ :: r,h=>by
  have e:(_ :: r:List Value)=[.type "Exception",.type "BaseException",.type "object"]:=beq_iff_eq.mp h
  cases e
 | .str _ _ :: r,h=>by
  have e:(_ :: r:List Value)=[.type "Exception",.type "BaseException",.type "object"]:=beq_iff_eq.mp h
  cases e
 | .builtin _ :: r,h=>by
  have e:(_ :: r:List Value)=[.type "Exception",.type "BaseException",.type "object"]:=beq_iff_eq.mp h
  cases e
 | .bytes _ _ :: r,h=>by
  have e:(_ :: r:List Value)=[.type "Exception",.type "BaseException",.type "object"]:=beq_iff_eq.mp h
  cases e
 | .float _ _ :: r,h=>by
  have e:(_ :: r:List Value)=[.type "Exception",.type "BaseException",.type "object"]:=beq_iff_eq.mp h
  cases e
theorem qjH:∀ {l:List Value},WN l=true->l.contains (.type "object")=true
 | .ref c :: r,h=>by rw [List.contains_cons,qjH (l:=r) h,Bool.or_true]
 | [],h=>by cases h
 | .type n :: r,h=>by
  have e:Value.type n :: r=[.type "Exception",.type "BaseException",.type "object"]:=beq_iff_eq.mp h
  rw [e]; decide
 | .none :: r,h=>by
  have e:Value.none :: r=[.type "Exception",.type "BaseException",.type "object"]:=beq_iff_eq.mp h
  cases e
 | .bool _ :: r,h=>by
  have e:(_ :: r:List Value)=[.type "Exception",.type "BaseException",.type "object"]:=beq_iff_eq.mp h
  cases e
 | .int _ _ :: r,h=>by
  have e:(_ :: r:List Value)=[.type "Exception",.type "BaseException",.type "object"]:=beq_iff_eq.mp h
  cases e
 | .str _ _ :: r,h=>by
  have e:(_ :: r:List Value)=[.type "Exception",.type "BaseException",.type "object"]:=beq_iff_eq.mp h
  cases e
 | .builtin _ :: r,h=>by
  have e:(_ :: r:List Value)=[.type "Exception",.type "BaseException",.type "object"]:=beq_iff_eq.mp h
  cases e
 | .bytes _ _ :: r,h=>by
  have e:(_ :: r:List Value)=[.type "Exception",.type "BaseException",.type "object"]:=beq_iff_eq.mp h
  cases e
 | .float _ _ :: r,h=>by
  have e:(_ :: r:List Value)=[.type "Exception",.type "BaseException",.type "object"]:=beq_iff_eq.mp h
  cases e
structure XCls (K:Frag) (C:Addr) (name:Str):Prop where
 cls:∃ cd,clsIn K C=some cd/\cd.hasDict=true/\WN cd.mro=true
 set:findIn K (.ref C) "__setattr__" = some (some (.builtin "object.__setattr__"))
 no:findIn K (.ref C) name=some none
theorem qnl {l:List Value} (h:WN l=true):l.isEmpty=false:=by
 cases l with
 | nil=>cases h
 | cons a r=>rfl
theorem xset {prog:Program} {w:World} {A:Around} {E:Value->Shared->Prop} {s:Shared} {K:Frag} {C e tp:Addr} {name:Str} {v:Value} {Q:Unit->Shared->Prop}
  (X:K.In s.heap) (T:XCls K C name) (he:s.heap.get? e=some (excAt C tp none))
  (k:∀ h' tk,h'.get? e=some (excAt C tp (some s.heap.objs.size))->h'.Ns1 s.heap.objs.size (fun y=>if y=name then some v else none)->(∀ b o,b≠e->s.heap.get? b=some o->h'.get? b=some o) ->
   Q () { s with heap:=h',toks:=tk }):wpAny (model prog w) A (setAttr (.ref e) name v) Q E s:=by
 obtain ⟨⟨cd,hc,hd,ho⟩,hs,hn⟩:=T
 have I:InstAt s.heap e (excAt C tp none) C none:=⟨he,rfl,rfl,trivial⟩
 have SF:=PySem.F.store_object
 have sub:Looks (model prog w) s.heap (isInstance (.ref e) (.type "object")) true:=I.type.andThen (looks_mroIn X (by unfold mroIn; rw [hc,Option.bind_some,if_neg (by rw [qnl ho]; decide),qjH ho]))
 have mro:Looks (model prog w) s.heap (mroOf (.ref C)) cd.mro:=(looks_clsIn X hc).andThen .now
 refine set_plain X I hs (codeAny_call_builtin SF.slot.plain SF.entry (@check_slot (model prog w) _ _ { s with toks:=s.toks+1 } "object.__setattr__" "object" "__setattr__" (.ref e) [.str name s.toks,v] [] _ SF.kind SF.split sub (SF.args _ _ _) ?_))
 rw [osa_eq,refuse_eq]
 refine wpAny_bind (wpAny_bind (Looks.here (s:={ s with toks:=s.toks+1 }) I.type (wpAny_bind (Looks.here (s:={ s with toks:=s.toks+1 }) mro ?_))))
 rw [qgM _ ho]
 refine wpAny_pure (wpAny_bind (Looks.here (s:={ s with toks:=s.toks+1 }) I.type (wpAny_bind (Looks.here (s:={ s with toks:=s.toks+1 }) (looks_findIn X hn) (wpAny_bind (wpAny_pure ?_))))))
 have lt:e≠s.heap.objs.size:=Nat.ne_of_lt (Heap.lt_size he)
 have e1:(s.heap.push { cls:=.type "dict",data:=.dict #[] }).get? e=some (excAt C tp none):=Heap.get?_push_of_some _ he
 show wpAny _ _ (storeInOwnDict _ _ _ _ _ _) _ _ _
 unfold storeInOwnDict ownDictForStores instanceDict
 refine wpAny_bind (wpAny_pure (wpAny_bind (wpAny_bind (wpAny_loadPart (s:={ s with toks:=s.toks+1 }) he (wpAny_bind (Looks.here (s:={ s with toks:=s.toks+1 }) (looks_clsIn X hc) ?_))))))
 rw [hd]
 refine wpAny_bind (wpAny_alloc' ?_)
 refine wpAny_bind (wpAny_update' e1 ?_)
 refine wpAny_pure ?_
 have gd:((s.heap.push { cls:=.type "dict",data:=.dict #[] }).update e fun o=>{ cls:=o.cls,dict:=some s.heap.objs.size,data:=o.data,slots:=o.slots }).get? s.heap.objs.size=some { cls:=.type "dict",data:=.dict #[] } :=
  (Heap.get?_update_ne _ _ _ _ lt.symm).trans (Heap.get?_push_at rfl rfl)
 have ge:=Heap.get?_update_self (fun o=>({ cls:=o.cls,dict:=some s.heap.objs.size,data:=o.data,slots:=o.slots }:Obj)) e1 rfl
 have nd:((s.heap.push { cls:=.type "dict",data:=.dict #[] }).update e fun o=>{ cls:=o.cls,dict:=some s.heap.objs.size,data:=o.data,slots:=o.slots }).Ns s.heap.objs.size (fun _=>none) :=
  ⟨_,#[],_,gd,rfl,fun x hx=>absurd hx (by simp),fun _=>rfl⟩
 show wpAny _ _ (storeInDict s.heap.objs.size (.str name s.toks) name v) _ _ _
 unfold storeInDict newKeyGuard
 refine wpAny_bind (wpAny_pure (wpAny_bind (wpAny_nsSet1 (Heap.Ns1.of_empty nd) fun h' hn' hs'=>?_)))
 obtain ⟨oD,esD,epD,hoD,hdD,hcD⟩:=hn'.count (Within.cons name v Within.nil)
 refine wpAny_bind (wpAny_lookBehind hoD (by rw [hdD]; exact pastItsLine_dict (Nat.le_trans hcD (by rw [List.length_cons,List.length_nil,sizeLine_eq]; omega))) ?_)
 refine wpAny_pure (k h' _ ((hs'.2 e lt).trans ge) hn' fun b o nb q=>?_)
 exact (hs'.2 b (Nat.ne_of_lt (Heap.lt_size q))).trans ((Heap.get?_update_ne _ _ _ _ nb).trans (Heap.get?_push_of_some _ q))
end Xc
namespace L2
open PySem PySem.Spec PyProof.Rows Xc
structure RefC (K:PySem.W.Frag) (R C:Addr):Prop where
 sub:PySem.W.mroIn K C (.ref R)=some true
 exc:PySem.W.mroIn K C (.type "BaseException")=some true
 ga:PySem.W.findIn K (.ref C) "__getattribute__" = some (some (.builtin "BaseException.__getattribute__"))
 gt:PySem.W.findIn K (.ref C) "__getattr__" = some none
 hd:PySem.W.hasDictIn K C=true
 no:PySem.W.findIn K (.ref C) "number" = some none
 exm:PySem.W.exmOne K (.ref C) (.ref R)=some true
def Fl (K:PySem.W.Frag) (R:Addr) (h:Heap) (H:Hp) (h0:Heap) (e:Addr) (n:Int):Prop :=
 ∃ (C d T:Addr) (oe:Obj) (tk:Tok) (mA:Str->Option Value),RefC K R C/\qeG h e T oe/\oe.cls=.ref C/\oe.dict=some d/\h.Ns1 d mA/\mA "number" = some (.int n tk) /\
  (h0.get? e=none/\h0.get? d=none/\h0.get? T=none)/\(d≠e/\d≠T)/\H e=none/\H T=none/\H d=none
def CXr (P:Program) (w:World) (K:PySem.W.Frag) (R:Addr):CXT:=fun outer H s E x s' =>
 ∃ (e:Addr) (n:Int) (H':Hp),x=.ref e/\Fl K R s'.heap H' s.heap e n/\s'.os=s.os/\AllBare s'.gens/\Un (frs outer) [] H H' s.heap s'.heap/\HOk P w H' s'.heap/\E (.int n 0) none H'
section
variable {X:Cx} {pins:List (Addr×Obj)} {σ:St} {H:Hp} {s:Shared} {h':Heap}
theorem qh3 (I:Inv X pins σ H s) (hst:X.stack=X.env :: X.outer) (hex:X.ex=[]) {e T:Addr} (he:H e=none) (hT:H T=none) (ne:X.s_0.heap.get? e=none) (nT:X.s_0.heap.get? T=none)
  (keep:∀ b o,s.heap.get? b=some o->b ∉ frl X.stack->b≠e->b≠T->h'.get? b=some o) (slot:∀ b o,s.heap.get? b=some o->b ∈ frl X.stack->∃ sl,h'.get? b=some { o with slots:=sl }) :
  Un X.fs [] X.H_0 H X.s_0.heap h'/\HOk X.prog X.w H h':=by
 have old:∀ {b:Addr} {o:Obj},X.s_0.heap.get? b=some o->b≠e/\b≠T/\b≠X.env.locals:=fun {b o} q=>by
  have h1:=Heap.lt_size q
  have h2:=I.ok.above
  refine ⟨fun z=>?_,fun z=>?_,fun z=>?_⟩
  ·rw [z,ne] at q; cases q
  ·rw [z,nT] at q; cases q
  ·exact Nat.ne_of_lt (Nat.lt_of_lt_of_le h1 h2) z
 have nex:∀ b:Addr,b ∉ X.ex:=fun b z=>by rw [hex] at z; exact absurd z (by simp)
 have sub:∀ b,b ∈ X.fs->b ∈ frl X.stack:=fun b hb=>by
  rw [hst]
  show b ∈ List.filterMap _ (X.env :: X.outer)
  rw [List.filterMap_cons]
  split
  ·exact hb
  ·exact List.mem_cons_of_mem _ hb
 refine ⟨⟨fun b o q n hb _=>?_,fun b o q n hb _=>?_,fun b o q n _=>I.base.free b o q n (nex b),fun b o q _=>?_,I.base.tups,I.base.frzs,I.base.tbls⟩,fun a o q=>?_⟩
 ·obtain ⟨n1,n2,n3⟩:=old q
  refine keep b o (I.base.keep b o q n hb (nex b)) (fun z=>?_) n1 n2
  rcases List.mem_cons.mp (I.stkSub b z) with z | z
  ·exact n3 z
  ·exact hb z
 ·obtain ⟨sl,q1⟩:=I.base.slot b o q n hb (nex b)
  obtain ⟨sl',q2⟩:=slot b _ q1 (sub b hb)
  exact ⟨sl',q2⟩
 ·obtain ⟨n1,n2,n3⟩:=old q
  obtain ⟨o',q1⟩:=I.base.there b o q (nex b)
  by_cases hb:b ∈ frl X.stack
  ·obtain ⟨sl,q2⟩:=slot b o' q1 hb
   exact ⟨_,q2⟩
  ·exact ⟨o',keep b o' q1 hb n1 n2⟩
 ·refine (I.hok a o q).stay (fun b u hb r=>?_) (fun _ z=>z) fun _ _ z=>z
  have tr:∃ v,H b=some v:=by
   rcases hb with rfl | hb
   ·exact ⟨o,q⟩
   ·exact ⟨_,hb⟩
  obtain ⟨v,tr⟩:=tr
  refine keep b u r (fun z=>?_) (fun z=>?_) (fun z=>?_)
  ·rw [I.stkFree b z] at tr; cases tr
  ·rw [z,he] at tr; cases tr
  ·rw [z,hT] at tr; cases tr
end
section
variable {P:Program} {w:World} {K:PySem.W.Frag} {R:Addr} {mg:Str->Option Value} {base:Heap} {N:List Str} {qual:Str} {scope:Scope} {f:Addr} {cdv:Value} {A:Around} {outer:List Env} {s:Shared} {H:Hp} {E:XK}
theorem qw:Passes (CXr P w K R) (cxOf (CXr P w K R) P w K mg base N qual scope f cdv A outer s H E) E:=by
 intro pins σ H1 s1 x s2 I h
 obtain ⟨e,n,H2,rfl,F,os,bare,un,hok,q⟩:=h
 have I2:Inv (cxOf (CXr P w K R) P w K mg base N qual scope f cdv A outer s H E) pins σ H2 s2:=I.call' os (ch:=[]) un hok bare fun b hb=>absurd hb (by simp)
 obtain ⟨C,d,T,oe,tk,mA,rc,al,hc,hd,ns,hm,⟨le,ld,lT⟩,⟨de,dT⟩,he,hT,hdn⟩:=F
 show wpAny _ _ (leaving _ (.ref e)) _ _ s2
 refine qmf (base:=base) (outer:=outer) (L:=s.heap.objs.size) I2.ok.frames I2.stack rfl al fun h' keep slot aft sz=>?_
 obtain ⟨T',oe',al',c',d',sT⟩:=aft
 have old:∀ b:Addr,s1.heap.get? b=none->s.heap.get? b=none:=fun b z=>by
  cases w1:s.heap.get? b with
  | none=>rfl
  | some o =>
   obtain ⟨o',w2⟩:=I.base.there b o w1 fun z=>absurd (show b ∈ ([]:List Addr) from z) (by simp)
   rw [w2] at z; cases z
 obtain ⟨u3,ok3⟩:=qh3 I2 rfl rfl he hT (old e le) (old T lT) keep slot
 obtain ⟨od,_,_,hod,_⟩:=id ns
 have dlt:=Heap.lt_size hod
 have nfr:d ∉ frl (cxOf (CXr P w K R) P w K mg base N qual scope f cdv A outer s H E).stack:=fun hb=>by
  obtain ⟨_,o,ho,_⟩:=I.stack.mem hb
  rw [ld] at ho; cases ho
 have ns':h'.Ns1 d mA:=ns.at fun o z=>keep d o z nfr de dT
 have sz2:s.heap.objs.size<=s2.heap.objs.size:=I2.sz
 exact ⟨e,n,H2,rfl,⟨C,d,T',oe',tk,mA,rc,al',c'.trans hc,d'.trans hd,ns',hm,⟨old e le,old d ld,Heap.get?_none_of_le (Nat.le_trans sz2 sT)⟩,⟨de,Nat.ne_of_lt (Nat.lt_of_lt_of_le dlt sT)⟩,he,I2.hok.fresh sT,hdn⟩,I2.os,I2.bare,u3,ok3,q⟩
theorem qbn:PassesOwn (model P w) (cxOf (CXr P w K R) P w K mg base N qual scope f cdv A outer s H E).A (cxOf (CXr P w K R) P w K mg base N qual scope f cdv A outer s H E).env (cxOf (CXr P w K R) P w K mg base N qual scope f cdv A outer s H E).xe :=
 PassesOwn.leaving
end
def xO (e C tp:Addr) (dx:Option Addr):HO:=.ext fun h=>h.get? e=some (excAt C tp dx)
theorem qm4 {P:Program} {w:World} {H:Hp} {h:Heap} {e C tp:Addr} {dx:Option Addr} (q:h.get? e=some (excAt C tp dx)):ObjOk P w H h e (xO e C tp dx):=⟨q,⟨_,q⟩,fun _ _ a b=>b _ a⟩
theorem qlU {P:Program} {w:World} {H:Hp} {h:Heap} {e C tp:Addr} {dx:Option Addr} (q:ObjOk P w H h e (xO e C tp dx)):h.get? e=some (excAt C tp dx):=q.1
def qoD (K:PySem.W.Frag) (ta tv:TE) (f:Str):TS:=fun D σ H=>tv σ H fun y H1=>ta σ H1 fun x H2=>∃ e C tp,x=.ref e/\H2 e=some (xO e C tp none)/\XCls K C f /\
 ∀ d,H2 d=none->D.nx σ (upd (upd H2 d (.xd [(f,y)])) e (xO e C tp (some d)))
section
variable {X:Cx} {o e value:Expr} {f:Str} {pos pos':Pos} {ta tv:TE}
theorem qnO (ha:PE X o ta) (hv:PE X value tv) (hs:swapsWith value (some (.Attribute o f pos')) pos.line X.env=pure false):PS X (.Assign [.Attribute o f pos'] value pos) (qoD X.K ta tv f):=by
 intro pins s σ H D I h
 refine plainObj_wpAny_Assign_Attribute (thn (hv pins s σ H _ I h) fun u s1 z=>?_) hs
 obtain ⟨y,H1,I1,ry,q⟩:=z
 refine thn (ha pins s1 σ H1 _ I1 q) fun ov s2 z=>?_
 obtain ⟨x,H2,I2,rx,a,C,tp,ex,ea,c,q2⟩:=z
 subst ex
 obtain rfl:ov=Value.ref a:=rx
 have ga:=qlU (I2.hok a _ ea)
 refine xset I2.kIn c ga fun h' tk g1 g2 g3=>?_
 have fr:H2 s2.heap.objs.size=none:=I2.hok.fresh (Nat.le_refl _)
 have lt:=Heap.lt_size ga
 have ne:a≠s2.heap.objs.size:=Nat.ne_of_lt lt
 refine ⟨σ,_,?_,q2 _ fr⟩
 refine I2.un (h':=h') (t':=tk) ?_ ?_
 ·have u1:Un X.fs [] H2 (upd H2 a (xO a C tp (some s2.heap.objs.size))) s2.heap h':=Un.write (x:=a) (e:=a) (by rw [ea]; exact True.intro) (.inl rfl) (fun b u nb z=>g3 b u nb z) ⟨_,g1⟩
  refine ⟨u1.keep,u1.slot,fun b ob z n nx=>?_,u1.there,fun b xs z=>?_,fun b ob u z=>?_,fun b ps z=>?_⟩
  ·have nb:b≠s2.heap.objs.size:=Nat.ne_of_lt (Heap.lt_size z)
   have na:b≠a:=fun w=>by rw [w,ea] at n; cases n
   rw [upd_ne na,upd_ne nb]; exact n
  ·have na:b≠a:=ne_of z ea (by unfold xO; intro w; cases w)
   rw [upd_ne na,upd_ne (ne_of_none z fr)]; exact z
  ·have na:b≠a:=ne_of z ea (by unfold xO; intro w; cases w)
   rw [upd_ne na,upd_ne (ne_of_none z fr)]; exact z
  ·have na:b≠a:=ne_of z ea (by unfold xO; intro w; cases w)
   exact ⟨#[],by rw [upd_ne na,upd_ne (ne_of_none z fr),z]; simp⟩
 ·intro b ob z
  by_cases na:b=a
  ·subst na
   rw [upd_same] at z; cases z
   exact qm4 g1
  ·rw [upd_ne na] at z
   by_cases nb:b=s2.heap.objs.size
   ·subst nb
    rw [upd_same] at z; cases z
    refine ⟨_,g2,fun g=>?_⟩
    show RelO (List.lookup g [(f,y)]) (if g=f then some u else none)
    by_cases hg:g=f
    ·have hb:(g == f)=true:=beq_iff_eq.mpr hg
     simp only [List.lookup,hb,if_pos hg]
     exact ry
    ·have hb:(g == f)=false:=beq_eq_false_iff_ne.mpr hg
     simp only [List.lookup,hb,if_neg hg]
     trivial
   ·rw [upd_ne nb] at z
    refine (I2.hok b ob z).stay (fun c u hc r=>g3 c u ?_ r) (fun c r=>?_) (fun c xs r=>?_)
    ·rcases hc with rfl | hc
     ·exact na
     ·exact ne_of hc ea (by unfold xO; intro w; cases w)
    ·rw [upd_ne (ne_of r ea (by unfold xO; intro w; cases w)),upd_ne (ne_of_none r fr)]; exact r
    ·rw [upd_ne (ne_of r ea (by unfold xO; intro w; cases w)),upd_ne (ne_of_none r fr)]; exact r
end
structure qj0 (K:PySem.W.Frag) (C:Addr) (m:Str) (f:Addr):Prop where
 ga:PySem.W.specialIn K (.ref C) "__getattribute__" = some (some (.builtin "type.__getattribute__"))
 rd:∃ mc,PySem.W.readsIn K C mc=true/\PySem.W.findCls K (.ref C) mc m=some (.val (.ref f))
 kp:PySem.W.keepIn K (.ref f)=true
section
variable {X:Cx} {CX:CXT} {k:Nat} {f C:Addr} {fd:FuncData} {ps:List Str} {sp:Sp} {E:XK} {x m:Str} {p pos apos:Pos} {e:Expr} {es:List Expr} {t:TA}
theorem qgv {pl:Sem Bool} (hg:Gl X x) (hm:X.mg x=some (.ref C)) (M:qj0 X.K C m f) (F:FnOk X.prog X.w X.K X.mg X.base CX k f fd ps sp) (hr:Room k X.A) (hb:Binds X.K fd ps []) (hx:Passes CX X E) (ha:PA X (e :: es) t)
  (hdb:(x == ("__debug__" : Str))=false:=by decide) (hst:starEach (e :: es) X.env=(false,eval e X.env) :: starEach es X.env:=by rfl) (hpl:(backTo pos (starEach es X.env)).any (·.1)=false:=by rfl)
  (ht:eval (.Call (.Attribute (.Name x p) m apos) (e :: es) [] pos) X.env=(do
   let ov <- eval (.Name x p) X.env
   standAt apos.atName
   let (f,first) <- holding [ov] (getMethod ov m pl)
   callWith pos f first (backTo pos (starEach (e :: es) X.env)) (backToKw pos (keywordEach [] X.env))):=by rfl) :
  PE X (.Call (.Attribute (.Name x p) m apos) (e :: es) [] pos) (tCall sp [] E t):=by
 intro pins s σ H Q I h
 obtain ⟨mc,hr1,hr2⟩:=M.rd
 refine PySem.W.methodCall_KW (pl:=pl) (ld_glob I hg hm ?_ hdb) ht
 refine PySem.W.method_cls I.kIn M.ga (PySem.W.cls_value I.kIn hr1 hr2 rfl ?_)
 have I1:=I.tok (s.toks+1)
 refine PySem.W.callWith_K (first:=[]) (h₀:=X.base) I.ok.mod.kin M.kp (thn (ha pos pins _ σ H _ I1 h) fun us s2 z=>?_) hst hpl
 obtain ⟨vs,H2,I2,r,q2⟩:=z
 exact ⟨I2.kIn,run_fn (us:=us) (vs:=vs) F hr hb .nil hx I2 r q2⟩
end
structure XMk (K:PySem.W.Frag) (C f:Addr):Prop where
 obj:∃ (nm q:Str) (N:Addr) (bs bm:List Value) (hdct:Bool) (sn:List Str) (sub:List Value) (ab:Bool) (col:Option Bool) (dd:Option Addr) (k0 k1 k2 k3 k5:Option Value),
  K.lookup C=some (excClassObj nm q C N bs bm hdct sn sub ab col dd k0 k1 k2 k3 k5 "Exception.__new__")/\Tail "Exception" bm
 init:PySem.W.findIn K (.ref C) "__init__" = some (some (.ref f))
 fn:∃ o,K.lookup f=some o/\o.cls=.type "function"
 kp:PySem.W.keepIn K (.ref C)=true
section
variable {X:Cx} {k:Nat} {f C:Addr} {fd:FuncData} {ps:List Str} {sp:Sp} {x:Str} {p pos:Pos} {e:Expr} {es:List Expr} {t:TA}
theorem qlb {pins:List (Addr×Obj)} {σ:St} {H:Hp} {s:Shared} {Q:Value->Shared->Prop} {us:List Value} {vs:List V} (M:XMk X.K C f) (F:FnOk X.prog X.w X.K X.mg X.base CX0 k f fd ps sp) (hr:Room (k+1) X.A) (hb:Binds X.K fd ps [])
  (I:Inv X pins σ H s) (r:Vals vs us) (hz:vs.length<=sizeLine) {W:VK}
  (h:sp (.ref (s.heap.objs.size+1) :: vs) (upd (upd H s.heap.objs.size (.tup vs)) (s.heap.objs.size+1) (xO (s.heap.objs.size+1) C s.heap.objs.size none)) W E0)
  (hq:∀ H2 s',Inv X pins σ H2 s'->Un (frs X.stack) [] (upd (upd H s.heap.objs.size (.tup vs)) (s.heap.objs.size+1) (xO (s.heap.objs.size+1) C s.heap.objs.size none)) H2 ((s.heap.push (Wx us)).push (Z7 C s.heap.objs.size)) s'.heap ->
   W .non H2->Q (.ref (s.heap.objs.size+1)) s') (hn:∀ v H2,W v H2->v=.non):wpAny (model X.prog X.w) X.A (call (.ref C) us) Q X.xe s:=by
 obtain ⟨nm,q,N,bs,bm,hdct,sn,sub,ab,col,dd,k0,k1,k2,k3,k5,hK,T⟩:=M.obj
 obtain ⟨oI,hI,cI⟩:=M.fn
 have hC:=I.kIn _ _ hK
 have hf:=I.kIn _ _ hI
 have hL:PySem.W.Looks (model X.prog X.w) s.heap (typeLookup (.ref C) "__init__") (some (.ref f)):=PySem.W.looks_findIn I.kIn M.init
 have I1:=I.laid (a:=s.heap.objs.size) (o:=.tup vs) (h':=s.heap.push (Wx us)) (t':=s.toks) (fun b u q=>Heap.get?_push_of_some _ q) (Nat.le_refl _) ⟨hz,us,r,⟨_,Heap.get?_push_size _ rfl,rfl,_,rfl⟩⟩
 have ge:((s.heap.push (Wx us)).push (Z7 C s.heap.objs.size)).get? (s.heap.objs.size+1)=some (Z7 C s.heap.objs.size):=by
  have:=Heap.get?_push_size (s.heap.push (Wx us)) (o:=Z7 C s.heap.objs.size) rfl
  rwa [Heap.size_push] at this
 have I2:=I1.laid (a:=s.heap.objs.size+1) (o:=xO (s.heap.objs.size+1) C s.heap.objs.size none) (h':=(s.heap.push (Wx us)).push (Z7 C s.heap.objs.size)) (t':=s.toks) (fun b u q=>Heap.get?_push_of_some _ q) (Nat.le_of_eq (Heap.size_push _ _)) (qm4 ge)
 have r2:Vals (V.ref (s.heap.objs.size+1) :: vs) (Value.ref (s.heap.objs.size+1) :: us):=.cons rfl r
 have hl:(Value.ref (s.heap.objs.size+1) :: us).length=ps.length:=by rw [<- r2.length]; exact F.len _ _ _ _ h
 have hb2:=hb _ (Value.ref (s.heap.objs.size+1) :: us) I2.kIn (by rw [List.append_nil]; exact hl)
 rw [List.append_nil] at hb2
 obtain ⟨hp,g,dr,tk,os⟩:=s
 refine qoo PySem.F.excBase_Exception T hC hL hf cI (by rw [<- r.length]; exact hz) (wpAny_call (codeAny_mono (F.run _ X.stack _ _ ⟨Value.ref (hp.objs.size+1) :: us,[]⟩ (Value.ref (hp.objs.size+1) :: us) _ _ E0 (hr.make C us []) (I2.env0.make C us []) hb2 r2 h) fun rr s' z=>?_))
 cases rr with
 | error e=>exact z.elim
 | ok fl =>
  cases fl with
  | ret u =>
   obtain ⟨v,H',os',bare,un,hok,rv,w1⟩:=id z
   have ev:=hn v H' w1
   subst ev
   have I3:=I2.call' os' (ch:=[]) un hok bare fun b hb=>absurd hb (by simp)
   exact ⟨rv,hq H' s' I3 un w1⟩
  | next=>exact z.elim
  | brk=>exact z.elim
  | cont=>exact z.elim
end
def qfU (C:Addr) (sp:Sp) (t:TA) (E:XK):TS:=fun _ σ H=>t σ H fun vs H1=>vs.length<=sizeLine/\∀ e tp,H1 e=none->H1 tp=none->tp≠e ->
 sp (.ref e :: vs) (upd (upd H1 tp (.tup vs)) e (xO e C tp none)) (fun v H2=>v=.non/\∃ d n,H1 d=none/\d≠e/\d≠tp/\H2 e=some (xO e C tp (some d))/\H2 d=some (.xd [("number",.int n)])/\∀ H3,E (.int n 0) none H3) E0
section
variable {P:Program} {w:World} {K:PySem.W.Frag} {R:Addr} {mg:Str->Option Value} {base:Heap} {N:List Str} {qual:Str} {scope:Scope} {g:Addr} {cdv:Value} {A:Around} {outer:List Env} {s_0:Shared} {H_0:Hp} {E:XK}
 {k:Nat} {f C:Addr} {fd:FuncData} {ps:List Str} {sp:Sp} {x:Str} {p pos cpos:Pos} {es:List Expr} {t:TA}
theorem qgN (M:XMk K C f) (rc:RefC K R C) (F:FnOk P w K mg base CX0 k f fd ps sp) (hr:Room (k+1) (cxOf (CXr P w K R) P w K mg base N qual scope g cdv A outer s_0 H_0 E).A) (hb:Binds K fd ps [])
  (hev:∀ (pins:List (Addr×Obj)) (s:Shared) (σ:St) (H:Hp) (Q:Value->Shared->Prop),Inv (cxOf (CXr P w K R) P w K mg base N qual scope g cdv A outer s_0 H_0 E) pins σ H s ->
   (t σ H fun vs H1=>∀ s1 us,Inv (cxOf (CXr P w K R) P w K mg base N qual scope g cdv A outer s_0 H_0 E) pins σ H1 s1->Vals vs us ->
    wpAny (model P w) (cxOf (CXr P w K R) P w K mg base N qual scope g cdv A outer s_0 H_0 E).A (call (.ref C) us) Q (cxOf (CXr P w K R) P w K mg base N qual scope g cdv A outer s_0 H_0 E).xe s1) ->
   wpAny (model P w) (cxOf (CXr P w K R) P w K mg base N qual scope g cdv A outer s_0 H_0 E).A (eval (.Call (.Name x p) es [] cpos) (cxOf (CXr P w K R) P w K mg base N qual scope g cdv A outer s_0 H_0 E).env) Q (cxOf (CXr P w K R) P w K mg base N qual scope g cdv A outer s_0 H_0 E).xe s)
  (hm:∀ (σ:St) (H:Hp) (a b:List V->Hp->Prop),(∀ vs H1,a vs H1->b vs H1)->t σ H a->t σ H b) :
  PS (cxOf (CXr P w K R) P w K mg base N qual scope g cdv A outer s_0 H_0 E) (.Raise (some (.Call (.Name x p) es [] cpos)) none pos) (qfU C sp t E):=by
 intro pins s σ H D I h
 obtain ⟨nm,q,NN,bs,bm,hdct,sn,sub,ab,col,dd,k0,k1,k2,k3,k5,hK,T⟩:=M.obj
 rw [arm_exec_Raise]
 refine wpAny_bind (wpAny_standAt (qku (C:=C) (nm:=nm) (q:=q) (N:=NN) (bs:=bs) (bm:=bm) (hdct:=hdct) (sn:=sn) (sub:=sub) (ab:=ab) (col:=col) (dd:=dd) (k0:=k0) (k1:=k1) (k2:=k2) (k3:=k3) (k5:=k5) (newId := "Exception.__new__") T.base (I.ok.hd rfl) (wpAny_bind (wpAny_mono
  (hev pins s σ H _ I (hm σ H _ _ (fun vs H1 z s1 us I1 r=>?_) h)) (fun v s3 z=>wpAny_bind (wpAny_standAt (wpAny_pure z))) fun _ _ z=>z))))
 obtain ⟨hz,z⟩:=z
 have z:=z (s1.heap.objs.size+1) s1.heap.objs.size (I1.hok.fresh (Nat.le_succ _)) (I1.hok.fresh (Nat.le_refl _)) (Nat.ne_of_lt (Nat.lt_succ_self _))
 refine qlb M F hr hb I1 r hz z (fun H2 s2 I2 un w1=>?_) fun v H2 w1=>w1.1
 obtain ⟨_,d,n,nd,nde,ndt,he,hd,hE⟩:=w1
 have ge:=qlU (I2.hok _ _ he)
 refine ⟨_,s1.heap.objs.size,some d,rfl,I2.kIn _ _ hK,ge,?_⟩
 obtain ⟨mA,ns,rel⟩:=(show ∃ mA,s2.heap.Ns1 d mA/\∀ f,RelO ((([("number",V.int n)]:List (Str×V))).lookup f) (mA f) from I2.hok _ _ hd)
 obtain ⟨u,hu,tk,eu⟩:=RelO.some_of (v:=V.int n) (o:=mA "number") (rel "number")
 subst eu
 have fr1:s1.heap.get? (s1.heap.objs.size+1)=none:=Heap.get?_none_of_le (Nat.le_succ _)
 have frd:s1.heap.get? d=none:=by
  cases w1:s1.heap.get? d with
  | none=>rfl
  | some o =>
   have:=un.free d o (Heap.get?_push_of_some _ (Heap.get?_push_of_some _ w1)) (by rw [upd_ne nde,upd_ne ndt]; exact nd) (by simp)
   rw [hd] at this; cases this
 have old:∀ b:Addr,s1.heap.get? b=none->s_0.heap.get? b=none:=fun b z=>by
  cases w1:s_0.heap.get? b with
  | none=>rfl
  | some o =>
   obtain ⟨o',w2⟩:=I1.base.there b o w1 fun z=>absurd (show b ∈ ([]:List Addr) from z) (by simp)
   rw [w2] at z; cases z
 have I3:Inv (cxOf (CXr P w K R) P w K mg base N qual scope g cdv A outer s_0 H_0 E) pins σ (fun b=>if b=s1.heap.objs.size+1\/b=d then none else H2 b) s2:=by
  have less:∀ b,H2 b=none->(if b=s1.heap.objs.size+1\/b=d then none else H2 b)=none:=fun b z=>by split <;> first | rfl | exact z
  have same:∀ b o,H2 b=some o->o≠xO (s1.heap.objs.size+1) C s1.heap.objs.size (some d)->o≠.xd [("number",.int n)]->(if b=s1.heap.objs.size+1\/b=d then none else H2 b)=some o:=fun b o z n1 n2=>by
   rw [if_neg]
   ·exact z
   ·rintro (e | e)
    ·subst e; rw [he] at z; cases z; exact n1 rfl
    ·subst e; rw [hd] at z; cases z; exact n2 rfl
  refine ⟨I2.ok,I2.os,I2.bare,⟨I2.base.keep,I2.base.slot,fun b o z n1 n2=>less b (I2.base.free b o z n1 n2),I2.base.there,fun b xs z=>same b _ (I2.base.tups b xs z) (by unfold xO; intro e; cases e) (by intro e; cases e),
   fun b o u z=>same b _ (I2.base.frzs b o u z) (by unfold xO; intro e; cases e) (by intro e; cases e),fun b qs z=>?_⟩,I2.loc,I2.cell,less _ I2.free,fun y c z=>less _ (I2.freeC y c z),fun p hp=>?_,fun b o z=>?_,I2.len⟩
  ·obtain ⟨m,z⟩:=I2.base.tbls b qs z
   exact ⟨m,same b _ z (by unfold xO; intro e; cases e) (by intro e; cases e)⟩
  ·obtain ⟨z1,z2,z3⟩:=I2.pin p hp
   exact ⟨z1,less _ z2,z3⟩
  ·have z':H2 b=some o:=by
    split at z
    ·cases z
    ·exact z
   exact (I2.hok b o z').stay (fun _ _ _ y=>y) (fun c y=>same c _ y (by unfold xO; intro e; cases e) (by intro e; cases e)) fun c xs y=>same c _ y (by unfold xO; intro e; cases e) (by intro e; cases e)
 have se:(if s1.heap.objs.size+1=s1.heap.objs.size+1\/s1.heap.objs.size+1=d then none else H2 (s1.heap.objs.size+1))=none:=if_pos (.inl rfl)
 have sd:(if d=s1.heap.objs.size+1\/d=d then none else H2 d)=none:=if_pos (.inr rfl)
 show wpAny _ _ (leaving _ (.ref (s1.heap.objs.size+1))) _ _ s2
 refine leave_new (base:=base) (outer:=outer) (L:=s_0.heap.objs.size) I3.ok.frames I3.stack rfl ge rfl rfl fun h' aft=>?_
 obtain ⟨T',oe',al',c',d',sT⟩:=aft.aloft
 have neT:s2.heap.objs.size≠s1.heap.objs.size+1:=Nat.ne_of_gt (Heap.lt_size ge)
 obtain ⟨u3,ok3⟩:=qh3 I3 rfl rfl (e:=s1.heap.objs.size+1) (T:=s2.heap.objs.size) se (I3.hok.fresh (Nat.le_refl _)) (old _ fr1) (Heap.get?_none_of_le I3.sz) (fun b o z n1 n2 _=>aft.keep b o z n1 n2) aft.slot
 obtain ⟨od,_,_,hod,_⟩:=id ns
 have nfr:d ∉ frl (cxOf (CXr P w K R) P w K mg base N qual scope g cdv A outer s_0 H_0 E).stack:=fun hb=>by
  obtain ⟨_,o,ho,_⟩:=I1.stack.mem hb
  rw [frd] at ho; cases ho
 have ns':h'.Ns1 d mA:=ns.at fun o z=>aft.keep d o z nfr nde
 have dlt:=Heap.lt_size hod
 have sz3:s_0.heap.objs.size<=s2.heap.objs.size:=I3.sz
 exact ⟨_,n,_,rfl,⟨C,d,T',oe',tk,mA,rc,al',c',d',ns',hu,⟨old _ fr1,old _ frd,Heap.get?_none_of_le (Nat.le_trans sz3 sT)⟩,⟨nde,Nat.ne_of_lt (Nat.lt_of_lt_of_le dlt sT)⟩,se,I3.hok.fresh sT,sd⟩,I3.os,I3.bare,u3,ok3,hE _⟩
theorem qks {te:TE} {tr:TA} (h1:∀ (σ:St) (H:Hp) (a b:VK),(∀ v H1,a v H1->b v H1)->te σ H a->te σ H b) (h2:∀ (σ:St) (H:Hp) (a b:List V->Hp->Prop),(∀ vs H1,a vs H1->b vs H1)->tr σ H a->tr σ H b) :
  ∀ (σ:St) (H:Hp) (a b:List V->Hp->Prop),(∀ vs H1,a vs H1->b vs H1)->tCons te tr σ H a->tCons te tr σ H b:=fun σ H a b hab z=>h1 σ H _ _ (fun v H1 y=>h2 σ H1 _ _ (fun vs H2 y=>hab _ _ y) y) z
theorem qin:∀ (σ:St) (H:Hp) (a b:List V->Hp->Prop),(∀ vs H1,a vs H1->b vs H1)->tNil σ H a->tNil σ H b:=fun _ _ _ _ hab z=>hab _ _ z
theorem qaA (M:XMk K C f) (rc:RefC K R C) (F:FnOk P w K mg base CX0 k f fd ps sp) (hr:Room (k+1) (cxOf (CXr P w K R) P w K mg base N qual scope g cdv A outer s_0 H_0 E).A) (hb:Binds K fd ps [])
  (hg:Gl (cxOf (CXr P w K R) P w K mg base N qual scope g cdv A outer s_0 H_0 E) x) (hm:mg x=some (.ref C)) (hdb:(x == ("__debug__" : Str))=false:=by decide) :
  PS (cxOf (CXr P w K R) P w K mg base N qual scope g cdv A outer s_0 H_0 E) (.Raise (some (.Call (.Name x p) [] [] cpos)) none pos) (qfU C sp tNil E) :=
 qgN M rc F hr hb (fun pins s σ H Q I h=>wpAny_Call_Name_kw (ld_glob I hg hm (PySem.W.callWith_K0 I.kIn M.kp (h s [] I .nil)) hdb)) qin
theorem qiG {e:Expr} {te:TE} (M:XMk K C f) (rc:RefC K R C) (F:FnOk P w K mg base CX0 k f fd ps sp) (hr:Room (k+1) (cxOf (CXr P w K R) P w K mg base N qual scope g cdv A outer s_0 H_0 E).A) (hb:Binds K fd ps [])
  (hg:Gl (cxOf (CXr P w K R) P w K mg base N qual scope g cdv A outer s_0 H_0 E) x) (hm:mg x=some (.ref C)) (he:PE (cxOf (CXr P w K R) P w K mg base N qual scope g cdv A outer s_0 H_0 E) e te)
  (hmono:∀ (σ:St) (H:Hp) (a b:VK),(∀ v H1,a v H1->b v H1)->te σ H a->te σ H b) (hdb:(x == ("__debug__" : Str))=false:=by decide)
  (hst:starEach [e] (cxOf (CXr P w K R) P w K mg base N qual scope g cdv A outer s_0 H_0 E).env=(false,eval e (cxOf (CXr P w K R) P w K mg base N qual scope g cdv A outer s_0 H_0 E).env) :: starEach [] (cxOf (CXr P w K R) P w K mg base N qual scope g cdv A outer s_0 H_0 E).env:=by rfl)
  (hpl:(backTo cpos (starEach [] (cxOf (CXr P w K R) P w K mg base N qual scope g cdv A outer s_0 H_0 E).env)).any (·.1)=false:=by rfl) :
  PS (cxOf (CXr P w K R) P w K mg base N qual scope g cdv A outer s_0 H_0 E) (.Raise (some (.Call (.Name x p) [e] [] cpos)) none pos) (qfU C sp (tCons te tNil) E):=by
 refine qgN M rc F hr hb (fun pins s σ H Q I h=>wpAny_Call_Name_kw (ld_glob I hg hm ?_ hdb)) (qks hmono qin)
 refine PySem.W.callWith_K (h₀:=base) I.ok.mod.kin M.kp (thn (pa_cons he pa_nil hst cpos pins s σ H _ I h) fun us s1 z=>?_) hst hpl
 obtain ⟨vs,H1,I1,r,q⟩:=z
 exact ⟨I1.kIn,q s1 us I1 r⟩
end
theorem Fun.okR {P:Program} {w:World} {K:PySem.W.Frag} {R:Addr} {mg:Str->Option Value} {base:Heap} {x qual:Str} {st:Stmt} {f:Addr} {fd:FuncData} {N ps:List Str} {k:Nat} {sp:Sp} (F:Fun K x qual st f fd) (S:FnScope N ps (defScope st)) (len:∀ vs H Q E,sp vs H Q E->vs.length=ps.length)
  (hbody:∀ (cdv:Value) (A:Around) (outer:List Env) (s:Shared) (H:Hp) (vs:List V) (Q:VK) (E:XK),Room k (A.deeper (envOfC qual (defScope st) s.heap.objs.size f cdv))->sp vs H Q E ->
   ∃ t,PSs (cxOf (CXr P w K R) P w K mg base N qual (defScope st) f cdv A outer s H E) (defBody st) t/\t { nx:=fun _ H'=>Q .non H',rt:=Q } (start N vs) H):FnOk P w K mg base (CXr P w K R) (k+1) f fd ps sp:=by
 obtain ⟨oc,od,kV,doc,pm,an,cdv,ct,osl,rfl,lk,hcd⟩:=F.ex
 exact fn_of lk hcd S len fun A outer s H vs Q E hr hsp=>hbody cdv A outer s H vs Q E hr hsp
end L2
namespace Xc
open PySem PySem.Spec PyProof.Rows
theorem qmC:typeLookup (.type "list_reverseiterator") "__len__" = pure none:=by
 rw [typeLookup_type,builtinLookup_eq_fast]
 kernel_rfl
theorem qnG:typeLookup (.type "list_reverseiterator") "__length_hint__" = pure (some (.builtin "list_reverseiterator.__length_hint__")):=by
 rw [typeLookup_type,builtinLookup_eq_fast]
 kernel_rfl
section
variable {P:Program} {w:World} {B:Around} {z:Shared} {O:Result->Shared->Prop} {it l:Addr} {vs:Array Value}
abbrev RvSt (it l:Addr) (vs:Array Value):Nat->Shared->Prop:=fun i y=>i<=vs.size/\y.heap.IsRevIter it l ((vs.size:Int)-1-(i:Int))/\y.heap.IsList l vs
abbrev RvAt (vs:Array Value):Nat->Value->Prop:=fun i v=>vs[vs.size-1-i]?=some v
theorem qlw (hB:B.handled=none) (ne:l≠it) (t:Addr) (c:Nat) (z0:RvSt it l vs 0 z) (t1:t≠it) (t2:t≠l) (ht:z.heap.get? t=some { cls:=.type "list",data:=.seq #[] c })
  (fin:∀ y acc c',Moved [t,it] (fun a b=>b=a) z y->y.heap.get? t=some { cls:=.type "list",dict:=none,data:=.seq acc c',slots:=#[] }->ItemsOf (RvAt vs) acc vs.size->O (.ok (.ret .none)) y) (hn:vs.size<=sizeLine) :
  wpAny (model P w) B.in1 (Builtin.List.listExtendWith (.ref t) (.ref it) .none)
   (fun f y=>match f with | .done g=>O (.ok g) y | .again c'=>c'.quiet=true/\codeAny (model P w) B c' O y) (fun e y=>O (.error e) y) z:=by
 have W:=(Walks.listRev (prog:=P) (w:=w) (A:=B.in1) hB it l ne vs).toS
 have ty:z.TypeIs (.ref it) "list_reverseiterator" := z0.2.1.typeIs
 have tf:t ∉ [it,l]:=by simp [t1,t2]
 unfold Builtin.List.listExtendWith
 refine wpAny_bind (wpAny_typeOf ty ?_)
 rw [if_neg (by rw [show Builtin.List.listSameRef (.ref t) (.ref it)=false by simp [Builtin.List.listSameRef,t1]]; decide)]
 refine wpAny_bind (W.self 0 _ _ _ z0 ?_)
 refine wpAny_bind (wpAny_holding ?_)
 unfold Builtin.List.listLengthHint
 refine wpAny_bind (wpAny_specialOf ty qmC ?_)
 show wpAny _ B.in1 (specialOf (Value.ref it) (Str.ofString "__length_hint__") >>= _) _ _ _
 refine wpAny_bind (wpAny_specialOf ty qnG ?_)
 generalize hid:("list_reverseiterator.__length_hint__" : String)=nm
 wp_delta
 rw [show splitId nm=some ("list_reverseiterator","__length_hint__") from by subst hid; decide +kernel]
 subst hid
 refine wpAny_bind (wpAny_isInstance (b:=true) ty (by rw [isSubtype_type]; kernel_rfl) ?_)
 refine wpAny_pure ?_
 rw [if_neg (by decide)]
 exact wpAny_pure ⟨plainId_quiet F.plain_extend_loop _,codeAny_extend_loopS W hn _ tf _ vs.size 0 _ _ _ rfl (Nat.zero_le _) z0 ht (ItemsOf.nil _) fun y acc c' m g a=>fin y acc c' m g a⟩
theorem qnr (hB:B.handled=none) (ne:l≠it) (t:Addr) (z0:RvSt it l vs 0 z) (t1:t≠it) (t2:t≠l) (ht:z.heap.get? t=some { cls:=.type "list",data:=.seq #[] })
  (fin:∀ y acc c',Moved [t,it] (fun a b=>b=a) z y->y.heap.get? t=some { cls:=.type "list",dict:=none,data:=.seq acc c',slots:=#[] }->ItemsOf (RvAt vs) acc vs.size->O (.ok (.ret .none)) y) (hn:vs.size<=sizeLine) :
  wpAny (model P w) B.in1 (Builtin.«list.__init__» ⟨[.ref t,.ref it],[]⟩)
   (fun f y=>match f with | .done g=>O (.ok g) y | .again c'=>c'.quiet=true/\codeAny (model P w) B c' O y) (fun e y=>O (.error e) y) z:=by
 show wpAny _ B.in1 (do let was <- Builtin.List.listItems (.ref t); Builtin.List.listUpdate (.ref t) (fun _=>#[]); letGo was.toList.reverse; Builtin.List.listExtendWith (.ref t) (.ref it) .none) _ _ z
 refine wpAny_bind ?_
 unfold Builtin.List.listItems
 refine wpAny_bind (wpAny_seqItems ht rfl (wpAny_pure ?_))
 show wpAny _ B.in1 (updateSeq t (fun _=>#[]) >>= fun _=>letGo (#[]:Array Value).toList.reverse >>= fun _=>Builtin.List.listExtendWith (.ref t) (.ref it) .none) _ _ z
 refine wpAny_bind (wpAny_updateSeq ht rfl ?_)
 have g2:=Heap.get?_update_self (Obj.mapSeq (fun _=>(#[]:Array Value))) ht rfl
 have rest:∀ b o,b≠t->z.heap.get? b=some o->(z.heap.update t (Obj.mapSeq (fun _=>(#[]:Array Value)))).get? b=some o :=
  fun b o n e=>by rw [Heap.get?_update_other _ _ (Ne.symm n)]; exact e
 refine wpAny_bind (wpAny_letGo ?_)
 refine qlw hB ne t _ ⟨z0.1,z0.2.1.at fun o e=>rest it o (Ne.symm t1) e,z0.2.2.at fun o e=>rest l o (Ne.symm t2) e⟩ t1 t2 g2 (fun y acc c' m g a=>fin y acc c' ?_ g a) hn
 exact Moved.trans (fun _ _ _ p q=>q.trans p) (Moved.then_heap (wr:=[t,it]) (G:=fun a b=>b=a) (Moved.refl (fun _=>rfl)) (Nat.le_refl _) fun b o n e=>rest b o (fun h=>n (by rw [h]; exact List.mem_cons_self)) e) m
theorem qnD {Q:Value->Shared->Prop} {E:Value->Shared->Prop} (hB:B.handled=none) (ne:l≠it) (z0:RvSt it l vs 0 z) (t1:it < z.heap.objs.size) (t2:l < z.heap.objs.size)
  (fin:∀ y acc c',Moved [z.heap.objs.size,it] (fun a b=>b=a) { z with heap:=z.heap.push { cls:=.type "list",data:=.seq #[] } } y->y.heap.get? z.heap.objs.size=some { cls:=.type "list",dict:=none,data:=.seq acc c',slots:=#[] }->ItemsOf (RvAt vs) acc vs.size->Q (.ref z.heap.objs.size) y) (hn:vs.size<=sizeLine) :
  wpAny (model P w) B (call (.type "list") [.ref it]) Q E z:=by
 refine callType_codes (Q₁:=fun o y=>o=.ref z.heap.objs.size/\y={ z with heap:=z.heap.push { cls:=.type "list",data:=.seq #[] } }) F.called_list (F.typeCall_list_1 _) F.entry_list_init
  (code_list_new _ ⟨rfl,rfl⟩) fun o y q=>?_
 obtain ⟨rfl,rfl⟩:=q
 have g:(z.heap.push { cls:=.type "list",data:=.seq #[] }).get? z.heap.objs.size=some { cls:=.type "list",data:=.seq #[] }:=Heap.get?_push_size _ rfl
 refine ⟨⟨_,g,rfl⟩,F.args_list_init_2 _ _,qnr (B:=B.in1) hB ne _ ⟨z0.1,z0.2.1.at fun o e=>Heap.get?_push_of_some _ e,z0.2.2.at fun o e=>Heap.get?_push_of_some _ e⟩ (Nat.ne_of_gt t1) (Nat.ne_of_gt t2) g (fun y acc c' m g a=>⟨rfl,fin y acc c' m g a⟩) hn⟩
end
theorem qmi {vs:List Value} {acc:Array Value} (h:ItemsOf (RvAt vs.toArray) acc vs.toArray.size):acc.toList=vs.reverse:=by
 obtain ⟨n,h⟩:=h
 apply List.ext_getElem?
 intro i
 simp only [List.size_toArray] at n
 by_cases q:i < vs.length
 ·have e:acc[i]?=some (acc[i]'(by omega)):=Array.getElem?_eq_getElem (by omega)
  have:=h i _ e
  have this:vs.toArray[vs.toArray.size-1-i]?=some (acc[i]'(by omega)):=this
  rw [List.size_toArray,List.getElem?_toArray] at this
  rw [List.getElem?_reverse q,this,Array.getElem?_toList,e]
 ·rw [List.getElem?_eq_none (by simp; omega),List.getElem?_eq_none (by simp; omega)]
end Xc
namespace L2
open PySem PySem.Spec PyProof.Rows Xc
section
variable {X:Cx} {e:Expr} {te:TE} {p p' pos pos':Pos}
def qmB (te:TE):TE:=fun σ H Q=>te σ H fun x H1=>∃ a xs,x=.ref a/\H1 a=some (.lst xs)/\∀ l,H1 l=none->Q (.ref l) (upd H1 l (.lst xs.reverse))
theorem qkA (hc:X.calm=true) (hg:Gl X "list") (hm:X.mg "list" = none) (hg':Gl X "reversed") (hm':X.mg "reversed" = none) (ha:PE X e te)
  (hs:starEach [e] X.env=[(false,eval e X.env)]:=by rfl) (hs':starEach [Expr.Call (.Name "reversed" p') [e] [] pos'] X.env=[(false,eval (Expr.Call (.Name "reversed" p') [e] [] pos') X.env)]:=by rfl) :
  PE X (.Call (.Name "list" p) [.Call (.Name "reversed" p') [e] [] pos'] [] pos) (qmB te):=by
 intro pins s σ H Q I h
 refine wpAny_Call_Name_kw (ld_blt I hg hm (show bootBuiltins "list" = some (.type "list") by decide +kernel) ?_)
 refine PyProof.Rows.callWith_type1 ?_ hs' rfl
 rw [hs']
 show wpAny _ _ (spliced [(false,eval (Expr.Call (.Name "reversed" p') [e] [] pos') X.env)]) _ _ s
 refine Calls.spliced_cons ?_
 refine wpAny_Call_Name_kw (ld_blt I hg' hm' boot_reversed5 ?_)
 refine PyProof.Rows.callWith_type1 ?_ hs rfl
 rw [hs]
 show wpAny _ _ (spliced [(false,eval e X.env)]) _ _ s
 refine Calls.spliced_cons (thn (ha pins s σ H _ I h) fun u s1 ⟨x,H1,I1,r1,q1⟩=>?_)
 obtain ⟨a,xs,rfl,hq,q⟩:=q1
 cases r1
 refine Calls.spliced_nil ?_
 obtain ⟨its,rv,pl,hz⟩:=I1.list (SqL.of hq)
 have hl:=rv.length
 have la:a < s1.heap.objs.size:=by obtain ⟨o,n,e,_⟩:=pl; exact Heap.lt_size e
 refine call_reversed_list pl.isList (Calls.spliced_nil ?_)
 have kp:∀ b u,s1.heap.get? b=some u->(s1.heap.push (revObj a ((its.toArray.size:Int)-1))).get? b=some u:=fun b u e=>Heap.get?_push_of_some _ e
 refine qnD (l:=a) (vs:=its.toArray) (I.ok.hd hc) (Nat.ne_of_lt la) ⟨Nat.zero_le _,⟨_,Heap.get?_push_size _ rfl,rfl,?_⟩,pl.isList.at fun o e=>kp a o e⟩ ?_ ?_ (fun y acc c' m g ac=>?_) (by simp only [List.size_toArray]; omega)
 ·show Data.fields #[Value.ref a,rawInt ((its.toArray.size:Int)-1)]=Data.fields #[Value.ref a,rawInt ((its.toArray.size:Int)-1-((0:Nat):Int))]
  rw [show ((its.toArray.size:Int)-1-((0:Nat):Int))=(its.toArray.size:Int)-1 by omega]
 ·rw [Heap.size_push]; exact Nat.lt_succ_self _
 ·rw [Heap.size_push]; exact Nat.lt_succ_of_lt la
 ·obtain ⟨yh,yg,yd,yt,yo⟩:=y
  have e1:yg=s1.gens:=m.gens
  have e2:yd=s1.drawn:=m.drawn
  have e3:yo=s1.os:=m.os
  subst e1 e2 e3
  have kk:∀ b u,s1.heap.get? b=some u->yh.get? b=some u:=fun b u e=>m.heap b u (fun z=>by
   have lb:=Heap.lt_size e
   simp only [List.mem_cons,List.not_mem_nil,or_false] at z
   rcases z with z | z
   ·rw [z] at lb
    have:=Heap.size_push s1.heap (revObj a ((its.toArray.size:Int)-1))
    exact absurd lb (Nat.not_lt.mpr (Nat.le_of_lt (by rw [this]; exact Nat.lt_succ_self _)))
   ·rw [z] at lb
    exact Nat.lt_irrefl _ lb) (Heap.get?_push_of_some _ (kp b u e))
  have ei:=qmi ac
  have hp:s1.heap.objs.size<=(s1.heap.push (revObj a ((its.toArray.size:Int)-1))).objs.size:=by rw [Heap.size_push]; exact Nat.le_succ _
  refine ⟨.ref _,_,I1.laid (h':=yh) (t':=yt) kk hp (show ObjOk X.prog X.w _ yh _ (.lst xs.reverse) from ⟨by rw [List.length_reverse]; exact hz,acc.toList,c',by rw [ei]; exact rv.reverse,by simpa using g⟩),rfl,q _ (I1.hok.fresh hp)⟩
end
end L2
namespace Xc
open PySem PySem.Spec PyProof.Rows
section
variable {prog:Program} {w:World} {A:Around} {E:Value->Shared->Prop} {K:PySem.W.Frag} {e C:Addr} {oe od:Obj} {name:Str} {expr:Bool} {Q:Value->Shared->Prop} {v:Value}
theorem qkL {s:Shared} {tk:Tok} {Q:Fin->Shared->Prop} (X:K.In s.heap) (I:PySem.W.InstAt s.heap e oe C (some od)) (hf:PySem.W.findObj K C (some od) name=some (.value v)) (h:Q (.done (.ret v)) s) :
  wpAny (model prog w) A (Builtin.«object.__getattribute__» ⟨[.ref e,.str name tk],[]⟩) Q E s:=by
 obtain ⟨hp,g,d,t,os⟩:=s
 have L0:=I.type (M:=model prog w)
 have L3:=PySem.W.looks_find (M:=model prog w) X I hf
 unfold Builtin.«object.__getattribute__»
 refine wpAny_bind (wpAny_pure ?_)
 refine wpAny_bind (wpAny_pure ?_)
 refine wpAny_bind (L0.at ?_)
 refine wpAny_bind (L3.at ?_)
 exact wpAny_pure h
theorem qlH {s:Shared} {tk:Tok} {R:Result->Shared->Prop} (X:K.In s.heap) (I:PySem.W.InstAt s.heap e oe C (some od)) (hb:PySem.W.mroIn K C (.type "BaseException")=some true) (hf:PySem.W.findObj K C (some od) name=some (.value v)) (h:R (.ok (.ret v)) s) :
  codeAny (model prog w) A (.call (.builtin "BaseException.__getattribute__") ⟨[.ref e,.str name tk],[]⟩) R s:=by
 refine codeAny_call_builtin F.attr_Exception.ga.plain F.entry_bexc_ga ?_
 obtain ⟨hp,g,d,t,os⟩:=s
 have L0:=I.type (M:=model prog w)
 have LB:=PySem.W.looks_mroIn (M:=model prog w) X hb
 have hk:builtinKind "BaseException.__getattribute__" = some .slot:=by decide +kernel
 have hsplit:splitId "BaseException.__getattribute__" = some ("BaseException","__getattribute__"):=by decide +kernel
 have ha:=F.args_bexc_ga (.ref e) (.str name tk)
 simp only [checkBuiltinCall,hk,hsplit]
 refine wpAny_bind ?_
 unfold isInstance
 refine wpAny_bind (L0.at (LB.at ?_))
 generalize hbd:Builtin.«object.__getattribute__» ⟨[.ref e,.str name tk],[]⟩=bd
 repeat (any_goals (first | assumption | wp_step))
 subst hbd
 exact qkL X I hf h
theorem xget {s:Shared} (X:K.In s.heap) (I:PySem.W.InstAt s.heap e oe C (some od)) (hga:PySem.W.findIn K (.ref C) "__getattribute__" = some (some (.builtin "BaseException.__getattribute__")))
  (hgt:PySem.W.findIn K (.ref C) "__getattr__" = some none) (hb:PySem.W.mroIn K C (.type "BaseException")=some true) (hf:PySem.W.findObj K C (some od) name=some (.value v)) (hh:PySem.W.handedIn v=true) (h:Q v { s with toks:=s.toks+1 }) :
  wpAny (model prog w) A (getAttr (.ref e) name expr) Q E s:=by
 obtain ⟨hp,g,d,t,os⟩:=s
 have L0:=I.type (M:=model prog w)
 have L1:=PySem.W.looks_findIn (M:=model prog w) X hga
 have L2:=PySem.W.looks_findIn (M:=model prog w) X hgt
 unfold getAttr getAttrBy
 refine wpAny_bind (wpAny_mkText (wpAny_holding (wpAny_bind (L0.at (wpAny_bind (L1.at ?_))))))
 have hx2:(Value.builtin "BaseException.__getattribute__" == Value.builtin "object.__getattribute__")=false:=by decide +kernel
 have hx1:(onTheHeap (Value.ref C) && Value.builtin "BaseException.__getattribute__" == Value.builtin "object.__getattribute__")=false:=by rw [hx2]; exact Bool.and_false _
 have hx0:(expr && onTheHeap (Value.builtin "BaseException.__getattribute__"))=false:=by cases expr <;> rfl
 dsimp only
 rw [if_neg (by rw [hx1]; exact Bool.false_ne_true)]
 unfold getAttrByItsOwn hookBefore
 rw [if_pos (show onTheHeap (Value.ref C)=true from rfl)]
 refine wpAny_bind (L2.at ?_)
 unfold callGetattribute
 rw [if_neg (by rw [hx0]; exact Bool.false_ne_true)]
 unfold boundAndCalled
 have f3:=F.attr_Exception.ga.bind (.ref e)
 rw [f3]
 refine wpAny_bind (wpAny_attempt (wpAny_holding (wpAny_bind (wpAny_pure ?_))))
 refine wpAny_call (qlH X I hb hf ?_)
 show wpAny _ _ (handedOut v) _ _ _
 rw [PySem.W.handedOut_of hh]
 exact wpAny_pure h
end
end Xc
namespace L2
open PySem PySem.Spec PyProof.Rows Xc
section
variable {M:Model} {A:Around} {E:Value->Shared->Prop} {s:Shared}
theorem qn0 {base:Heap} {env:Env} {outer:List Env} {L e T:Addr} {oe:Obj} {Q:Unit->Shared->Prop}
  (hfr:A.frames=some (env :: outer)) (hl:s.heap.FunFrames base (env :: outer)) (hf:env.frame=some L) (a:qeG s.heap e T oe)
  (k:∀ h',(∀ b o,s.heap.get? b=some o->b ∉ frl (env :: outer)->b≠e->b≠T->h'.get? b=some o)->(∀ b o,s.heap.get? b=some o->b ∈ frl (env :: outer)->∃ sl,h'.get? b=some { o with slots:=sl }) ->
   (∃ T' oe',qeG h' e T' oe'/\oe'.cls=oe.cls/\oe'.dict=oe.dict/\s.heap.objs.size<=T')->s.heap.objs.size<=h'.objs.size->Q () { s with heap:=h' }) :
  wpAny M A (noteFrame (.ref e) env) (fun _ s'=>wpAny M A (setFlight (.ref e) none) Q E s') E s:=by
 obtain ⟨he,⟨vs,hd,h1⟩,hne,oT,ts,hT,hdT,h3⟩:=a
 have nT:=qfu hl hT hdT
 unfold noteFrame
 simp only [hf]
 refine wpAny_bind (wpAny_field he hd h1 ?_)
 rw [if_pos (show (Value.ref T != Value.none)=true by simp)]
 refine wpAny_bind (wpAny_field hT hdT h3 ?_)
 rw [if_neg (show ¬ ((Value.none == rawInt L)=true) by simp [rawInt])]
 refine wpAny_bind (wpAny_setField hT hdT (Array.getElem?_eq_some_iff.mp h3).1 ?_)
 have other:∀ b,b≠T->(s.heap.update T (Obj.mapFields (·.setIfInBounds 3 Value.none))).get? b=s.heap.get? b:=fun b nb=>Heap.get?_update_other _ _ (Ne.symm nb)
 have apart:∀ b o,s.heap.get? b=some o->(∀ vs,o.data≠.fields vs)->b≠T:=fun b o q hn z=>by
  subst z
  obtain rfl:oT=o:=Option.some.inj (hT.symm.trans q)
  exact hn ts hdT
 refine entry_all (s:={ s with heap:=s.heap.update T (Obj.mapFields (·.setIfInBounds 3 Value.none)) }) hfr (hl.of_keeps fun b o q hn=>⟨o,(other b (apart b o q hn)).trans q,rfl⟩) hf ((other e (Ne.symm hne)).trans he) hd (Array.getElem?_eq_some_iff.mp h1).1 fun h' z=>?_
 have sz:(s.heap.update T (Obj.mapFields (·.setIfInBounds 3 Value.none))).objs.size=s.heap.objs.size:=Heap.size_after_update ..
 refine k h' (fun b o q n1 n2 n3=>z.keep b o ((other b n3).trans q) n1 n2) (fun b o q hb=>z.slot b o ((other b fun w=>nT (w ▸ hb)).trans q) hb) ?_ ?_
 ·have:=z.aloft
  rw [sz] at this
  exact this
 ·have:=z.size
  rw [sz] at this
  exact this
end
section
variable {X:Cx} {pins:List (Addr×Obj)} {σ:St} {H:Hp} {s:Shared} {h':Heap}
structure Bare (X:Cx):Prop where
 st:X.stack=X.env :: X.outer
 fr:X.env.frame=some X.env.locals
 ex:X.ex=[]
 cl:∀ x,X.env.cells.lookup x=none
theorem Inv.but (I:Inv X pins σ H s) (B:Bare X) {e T:Addr} (he:H e=none) (hT:H T=none) (ne:X.s_0.heap.get? e=none) (nT:X.s_0.heap.get? T=none) (np:∀ p ∈ X.pn++pins,p.1≠e/\p.1≠T)
  (keep:∀ b o,s.heap.get? b=some o->b ∉ frl X.stack->b≠e->b≠T->h'.get? b=some o) (slot:∀ b o,s.heap.get? b=some o->b ∈ frl X.stack->∃ sl,h'.get? b=some { o with slots:=sl }) :
  Inv X pins σ H { s with heap:=h' }:=by
 obtain ⟨u,ok⟩:=qh3 I B.st B.ex he hT ne nT keep slot
 obtain ⟨m,⟨o,es,ep,ho,hd,hs,hf⟩,hl⟩:=I.loc
 have hin:X.env.locals ∈ frl X.stack:=by
  rw [B.st]
  show _ ∈ List.filterMap _ (X.env :: X.outer)
  rw [List.filterMap_cons,B.fr]
  exact List.mem_cons_self
 obtain ⟨sl,ho'⟩:=slot _ _ ho hin
 refine ⟨I.ok,I.os,I.bare,by rw [B.ex]; exact u,⟨m,⟨_,es,ep,ho',hd,hs,hf⟩,fun i x v e1 e2 e3=>?_⟩,fun x c q=>?_,I.free,I.freeC,fun p hp=>?_,ok,I.len⟩
 ·obtain ⟨w,r,q⟩:=hl i x v e1 e2 e3
  refine ⟨w,r,?_⟩
  rcases q with q | ⟨_,c,q,_⟩
  ·exact .inl q
  ·rw [B.cl x] at q; cases q
 ·rw [B.cl x] at q; cases q
 ·obtain ⟨q1,q2,q3,q4,q5⟩:=I.pin p hp
  refine ⟨keep _ _ q1 (fun z=>?_) (np p hp).1 (np p hp).2,q2,q3,q4,q5⟩
  rcases List.mem_cons.mp (I.stkSub _ z) with z | z
  ·exact q3 z
  ·exact q4 z
theorem Inv.gone (I:Inv X pins σ H s) (B:Bare X) {m:Str->Option Value} (hn:h'.Ns X.env.locals m) (hs:Heap.SameBut X.env.locals s.heap h') {t':Nat}:Inv X pins (List.replicate X.N.length none) H { s with heap:=h',toks:=t' }:=by
 obtain ⟨_,⟨oL,_,_,hoL,_⟩,_⟩:=I.loc
 refine ⟨I.ok,I.os,I.bare,⟨fun b o e n hb hx=>?_,fun b o e n hb hx=>?_,I.base.free,fun b o e hx=>?_,I.base.tups,I.base.frzs,I.base.tbls⟩,⟨m,hn,fun i x v e1 e2 _=>?_⟩,fun x c q=>?_,I.free,I.freeC,fun p hp=>?_,fun b ob q=>?_,by simp⟩
 ·exact (hs.2 b (Nat.ne_of_lt (Nat.lt_of_lt_of_le (Heap.lt_size e) I.ok.above))).trans (I.base.keep b o e n hb hx)
 ·obtain ⟨sl,e1⟩:=I.base.slot b o e n hb hx
  exact ⟨sl,(hs.2 b (Nat.ne_of_lt (Nat.lt_of_lt_of_le (Heap.lt_size e) I.ok.above))).trans e1⟩
 ·obtain ⟨o',e1⟩:=I.base.there b o e hx
  exact ⟨o',(hs.2 b (Nat.ne_of_lt (Nat.lt_of_lt_of_le (Heap.lt_size e) I.ok.above))).trans e1⟩
 ·rw [List.getElem?_replicate] at e2
  split at e2 <;> cases e2
 ·rw [B.cl x] at q; cases q
 ·obtain ⟨q1,q2,q3,q4,q5⟩:=I.pin p hp
  exact ⟨(hs.2 p.1 q3).trans q1,q2,q3,q4,q5⟩
 ·refine (I.hok b ob q).stay (fun c w' hc z=>(hs.2 c ?_).trans z) (fun _ q=>q) fun _ _ q=>q
  rintro rfl
  rcases hc with rfl | hc
  ·rw [I.free] at q; cases q
  ·rw [I.free] at hc; cases hc
end
def EXd (D:Ends):XK:=fun v _ H'=>∃ n:Int,v=.int n 0/\∀ l,H' l=none->D.rt (.ref l) (upd H' l (.lst [.int n]))
def tTry (tb:XK->TS):TS:=fun D σ H=>tb (EXd D) D σ H
section
variable {X:Cx} {R:Addr} {i:Nat} {xn rn:Str} {body:List Stmt} {tb:XK->TS} {p1 p2 p3 p4 p5 p6 pos:Pos}
theorem qne {e C d:Addr} {oe od:Obj} {n:Int} {tk:Tok} {mA:Str->Option Value} (hi:X.N[i]?=some xn) (hx:X.env.scope.names.lookup xn=some .local) (hd1:(xn == ("__debug__" : Str))=false) (hd2:(xn == ("__classdict__" : Str))=false)
  (hb:attributeBase (.Name xn p2) "number" X.env (eval (.Name xn p2) X.env)=eval (.Name xn p2) X.env) (rc:RefC X.K R C) (m1:(e,oe) ∈ X.pn) (m2:(d,od) ∈ X.pn)
  (c1:oe.cls=.ref C) (c2:oe.dict=some d) (c3:PySem.W.notCls oe=true) (hl:PySem.W.lookIn "number" od=some (some (.int n tk))) :
  PE X (.Attribute (.Name xn p2) "number" p3) (fun σ H Q=>σ[i]?=some (some (.ref e))/\Q (.int n) H):=by
 intro pins s σ H Q I h
 refine attr_of hb (thn (pe_var hi (.inl hx) hd1 hd2 pins s σ H (fun v H'=>v=.ref e/\H'=H) I ⟨_,h.1,rfl,rfl⟩) fun u s1 z=>?_)
 obtain ⟨v,H1,I1,r1,rfl,rfl⟩:=z
 obtain rfl:u=Value.ref e:=r1
 have q1:=(I1.pin (e,oe) (List.mem_append_left _ m1)).1
 have q2:=(I1.pin (d,od) (List.mem_append_left _ m2)).1
 have J:PySem.W.InstAt s1.heap e oe C (some od):=⟨q1,c1,c3,by rw [c2]; exact q2⟩
 exact xget I1.kIn J rc.ga rc.gt rc.exc (PySem.W.findObj_own rc.hd rc.no rfl hl) rfl ⟨.int n,H1,I1.tok _,⟨tk,rfl⟩,h.2⟩
theorem qn5 (B:Bare X) (hN:X.N.Nodup) (hi:X.N[i]?=some xn) (hx:X.env.scope.names.lookup xn=some .local) (hg:Gl X rn) (hm:X.mg rn=some (.ref R)) (hd0:(rn == ("__debug__" : Str))=false) (hd1:(xn == ("__debug__" : Str))=false) (hd2:(xn == ("__classdict__" : Str))=false)
  (hb:attributeBase (.Name xn p2) "number" X.env (eval (.Name xn p2) X.env)=eval (.Name xn p2) X.env)
  (hst:starEach [.Attribute (.Name xn p2) "number" p3] X.env=(false,eval (.Attribute (.Name xn p2) "number" p3) X.env) :: starEach [] X.env)
  (hbody:∀ (xe:Value->Shared->Prop) (pn:List (Addr×Obj)) (E:XK),Passes (CXr X.prog X.w X.K R) { X with xe:=xe,pn:=pn } E->PSs { X with xe:=xe,pn:=pn } body (tb E)) :
  PS X (.Try body [.ExceptHandler (some (.Name rn p1)) (some xn) [.Return (some (.List [.Attribute (.Name xn p2) "number" p3] p4)) p5] p6] [] [] pos) (tTry tb):=by
 intro pins s σ H D I h
 have h:tb (EXd D) D σ H:=h
 have hXT:∃ XT:Value->Shared->Prop,XT=fun x s2=>∃ (e C d T:Addr) (oe:Obj) (tk:Tok) (mA:Str->Option Value) (n:Int) (H2:Hp) (σ2:St),x=.ref e/\Inv X pins σ2 H2 s2/\RefC X.K R C/\qeG s2.heap e T oe/\oe.cls=.ref C/\oe.dict=some d/\s2.heap.Ns1 d mA/\mA "number" = some (.int n tk) /\
  (X.s_0.heap.get? e=none/\X.s_0.heap.get? d=none/\X.s_0.heap.get? T=none)/\(d≠e/\d≠T)/\(H2 e=none/\H2 T=none/\H2 d=none)/\(∀ p ∈ X.pn++pins,p.1≠e/\p.1≠T/\p.1≠d)/\(e≠X.env.locals/\d≠X.env.locals)/\EXd D (.int n 0) none H2:=⟨_,rfl⟩
 obtain ⟨XT,hXT⟩:=hXT
 have okZ:({ X with xe:=XT,pn:=X.pn++pins }:Cx).Ok:=⟨I.ok.mod,I.ok.kind,I.ok.glob,I.ok.blt,I.ok.above,I.ok.inj,I.ok.has,I.ok.cab,I.ok.hd,I.ok.frames,I.ok.stk,I.ok.exf,I.ok.bs,I.ok.bsz,I.ok.noex,I.ok.exfs,I.ok.funs,I.ok.frf⟩
 have IZ:Inv { X with xe:=XT,pn:=X.pn++pins } [] σ H s:=⟨okZ,I.os,I.bare,I.base,I.loc,I.cell,I.free,I.freeC,fun p hp=>I.pin p (by simpa using hp),I.hok,I.len⟩
 have back:∀ {pins':List (Addr×Obj)} {σ':St} {H':Hp} {s':Shared},Inv { X with xe:=XT,pn:=X.pn++pins } pins' σ' H' s'->Inv X pins σ' H' s':=fun J =>
  ⟨I.ok,J.os,J.bare,J.base,J.loc,J.cell,J.free,J.freeC,fun p hp=>J.pin p (List.mem_append_left _ hp),J.hok,J.len⟩
 have hp:Passes (CXr X.prog X.w X.K R) { X with xe:=XT,pn:=X.pn++pins } (EXd D):=by
  intro pins' σ' H1 s1 x s2 J hcx
  obtain ⟨e,n,H2,rfl,⟨C,d,T,oe,tk,mA,rc,al,hc,hd,ns,hmn,⟨le,ld,lT⟩,⟨de,dT⟩,he,hT,hdn⟩,os,bare,un,hok,q⟩:=hcx
  have J2:Inv { X with xe:=XT,pn:=X.pn++pins } pins' σ' H2 s2:=J.call' os (ch:=[]) un hok bare fun b hb=>absurd hb (by simp)
  have old:∀ b:Addr,s1.heap.get? b=none->X.s_0.heap.get? b=none:=fun b z=>by
   cases w1:X.s_0.heap.get? b with
   | none=>rfl
   | some o =>
    obtain ⟨o',w2⟩:=J.base.there b o w1 fun z=>absurd (show b ∈ X.ex from z) (by rw [B.ex]; simp)
    rw [w2] at z; cases z
  obtain ⟨_,⟨oL,_,_,hoL,_⟩,_⟩:=J.loc
  have hoL:s1.heap.get? X.env.locals=some oL:=hoL
  show XT (.ref e) s2
  rw [hXT]
  refine ⟨e,C,d,T,oe,tk,mA,n,H2,σ',rfl,back J2,rc,al,hc,hd,ns,hmn,⟨old e le,old d ld,old T lT⟩,⟨de,dT⟩,⟨he,hT,hdn⟩,fun p hpp=>?_,⟨fun z=>?_,fun z=>?_⟩,q⟩
  ·have z:=(J.pin p (List.mem_append_left _ hpp)).1
   exact ⟨fun u=>(by rw [u,le] at z; cases z),fun u=>(by rw [u,lT] at z; cases z),fun u=>(by rw [u,ld] at z; cases z)⟩
  ·rw [<- z,le] at hoL; cases hoL
  ·rw [<- z,ld] at hoL; cases hoL
 refine wpAny_Try_except (wpAny_mono (hbody XT (X.pn++pins) (EXd D) hp [] s σ H D IZ h) (fun fl s1 q=>?_) fun x s1 q=>?_)
 ·cases fl with
  | next =>
   obtain ⟨σ',H',J,q⟩:=q
   exact wpAny_execs_nil ⟨σ',H',back J,q⟩
  | brk=>obtain ⟨σ',H',J,q⟩:=q; exact ⟨σ',H',back J,q⟩
  | cont=>obtain ⟨σ',H',J,q⟩:=q; exact ⟨σ',H',back J,q⟩
  | ret u=>obtain ⟨v,σ',H',J,r,q⟩:=q; exact ⟨v,σ',H',back J,r,q⟩
 have q:XT x s1:=q
 rw [hXT] at q
 obtain ⟨e,C,d,T,oe,tk,mA,n,H2,σ2,rfl,I2,rc,al,hc,hd,ns,hmn,⟨ne,ndd,nT⟩,⟨de,dT⟩,⟨he,hT,hdn⟩,np,⟨nel,ndl⟩,n',en,qd⟩:=q
 obtain rfl:n=n':=by injection en
 have hfr:=I2.ok.frames
 have hl:=I2.stack
 rw [B.st] at hfr hl
 refine qn0 hfr hl B.fr al fun h3 keep slot aft sz=>?_
 rw [<- B.st] at keep slot
 have I3:Inv X pins σ2 H2 { s1 with heap:=h3 }:=I2.but B he hT ne nT (fun p hp=>⟨(np p hp).1,(np p hp).2.1⟩) keep slot
 obtain ⟨T',oe',al3,c3,d3,sT⟩:=aft
 have notfr:∀ {b:Addr},X.s_0.heap.get? b=none->b≠X.env.locals->b ∉ frl X.stack:=fun {b} z nb hb=>by
  rcases List.mem_cons.mp (I2.stkSub _ hb) with u | u
  ·exact nb u
  ·obtain ⟨_,o,ho,_⟩:=I2.ok.funs.mem u
   rw [z] at ho; cases ho
 have ns3:h3.Ns1 d mA:=ns.at fun o z=>keep d o z (notfr ndd ndl) de dT
 have hT':H2 T'=none:=I2.hok.fresh sT
 have nT':X.s_0.heap.get? T'=none:=Heap.get?_none_of_le (Nat.le_trans I2.sz sT)
 have pT':∀ p ∈ X.pn++pins,p.1≠T':=fun p hp z=>by
  have:=Heap.lt_size (I2.pin p hp).1
  rw [z] at this
  exact absurd (Nat.lt_of_lt_of_le this sT) (Nat.lt_irrefl _)
 have dT':d≠T':=fun z=>by
  have:=ns.ns.lt
  rw [z] at this
  exact absurd (Nat.lt_of_lt_of_le this sT) (Nat.lt_irrefl _)
 have lT':T'≠X.env.locals:=fun z=>by
  have:=I2.lt
  rw [<- z] at this
  exact absurd (Nat.lt_of_lt_of_le this sT) (Nat.lt_irrefl _)
 have okM:∀ (xe:Value->Shared->Prop) (pn:List (Addr×Obj)),({ X with A:=X.A.mark (some (.ref e)),calm:=false,xe:=xe,pn:=pn }:Cx).Ok:=fun xe pn =>
  ⟨I.ok.mod,I.ok.kind,I.ok.glob,I.ok.blt,I.ok.above,I.ok.inj,I.ok.has,I.ok.cab,(fun z=>nomatch z),I.ok.frames,I.ok.stk,I.ok.exf,I.ok.bs,I.ok.bsz,I.ok.noex,I.ok.exfs,I.ok.funs,I.ok.frf⟩
 have IM:Inv { X with A:=X.A.mark (some (.ref e)),calm:=false,xe:=fun _ _=>False,pn:=X.pn } pins σ2 H2 { s1 with heap:=h3 }:=⟨okM _ _,I3.os,I3.bare,I3.base,I3.loc,I3.cell,I3.free,I3.freeC,I3.pin,I3.hok,I3.len⟩
 refine wpAny_handleBy_cons (codeAny_handlers_test ?_) (by intro q; cases q)
 refine ld_glob IM hg hm ?_ hd0
 have cl3:oe'.cls=.ref C:=c3.trans hc
 have LT:PySem.W.Looks (model X.prog X.w) h3 (typeOf (.ref e)) (.ref C):=cl3 ▸ (PySem.W.Looks.ld al3.here).andThen .now
 refine (PySem.W.exm_one I3.kIn LT rc.exm).at ?_
 show codeAny _ _ (.handlers (.ref e) [.ExceptHandler none (some xn) _ p6] X.env) _ _
 refine codeAny_handlers_suite_as ?_
 obtain ⟨he3,⟨vs3,hd3,h13⟩,hne3,oT3,ts3,hT3,hdT3,h33⟩:=al3
 unfold setFlight
 refine wpAny_bind (wpAny_field he3 hd3 h13 ?_)
 rw [if_pos (show (Value.ref T' != Value.none)=true by simp)]
 refine wpAny_setField hT3 hdT3 (Array.getElem?_eq_some_iff.mp h33).1 ?_
 have other:∀ b,b≠T'->(h3.update T' (Obj.mapFields (·.setIfInBounds 3 ((none:Option Addr).elim Value.none fun f=>rawInt f)))).get? b=h3.get? b:=fun b nb=>Heap.get?_update_other _ _ (Ne.symm nb)
 generalize hh4:h3.update T' (Obj.mapFields (·.setIfInBounds 3 ((none:Option Addr).elim Value.none fun f=>rawInt f)))=h4 at other
 have I4:Inv X pins σ2 H2 { s1 with heap:=h4 }:=I3.but B hT' hT' nT' nT' (fun p hp=>⟨pT' p hp,pT' p hp⟩) (fun b o q _ nb _=>(other b nb).trans q) (fun b o q hb=>⟨o.slots,(other b fun z=>notfr nT' lT' (z ▸ hb)).trans q⟩)
 have he4:h4.get? e=some oe':=(other e (Ne.symm hne3)).trans he3
 have ns4:h4.Ns1 d mA:=ns3.at fun o z=>(other d dT').trans z
 refine store_ok2 (v:=.ref e) I4 hN hi (.inl hx) rfl (fun s5 I5 sb=>?_) (.inr hx)
 obtain ⟨a5,sb,ha5⟩:=sb
 have ha5:a5=X.env.locals:=by
  rcases ha5 with z | z
  ·exact z
  ·rw [B.cl] at z; cases z
 subst ha5
 have he5:s5.heap.get? e=some oe':=(sb.2 e nel).trans he4
 have ns5:s5.heap.Ns1 d mA:=ns4.at fun o z=>(sb.2 d ndl).trans z
 obtain ⟨od,hod,hlook⟩:=lookIn_ns ns5
 have nfs:∀ {b:Addr},X.s_0.heap.get? b=none->b ∉ X.fs:=fun {b} z hb=>by
  obtain ⟨_,o,ho,_⟩:=I2.ok.funs.mem hb
  rw [z] at ho; cases ho
 have dod:∀ v,od.data≠.cell v:=fun v z=>by
  obtain ⟨o,es,ep,q1,q2,_⟩:=ns5
  rw [hod] at q1
  cases q1
  rw [q2] at z; cases z
 have I6:Inv { X with A:=X.A.mark (some (.ref e)),calm:=false,xe:=fun _ _=>False,pn:=(e,oe') :: (d,od) :: (X.pn++pins) } [] (σ2.set i (some (.ref e))) H2 s5:=by
  refine ⟨okM _ _,I5.os,I5.bare,I5.base,I5.loc,I5.cell,I5.free,I5.freeC,fun p hp=>?_,I5.hok,I5.len⟩
  have hp:p ∈ (e,oe') :: (d,od) :: (X.pn++pins):=by simpa using hp
  rcases List.mem_cons.mp hp with rfl | hp
  ·exact ⟨he5,he,nel,nfs ne,fun v z=>by rw [hd3] at z; cases z⟩
  rcases List.mem_cons.mp hp with rfl | hp
  ·exact ⟨hod,hdn,ndl,nfs ndd,dod⟩
  ·exact I5.pin p hp
 have hcls:PySem.W.notCls oe'=true:=by unfold PySem.W.notCls; rw [hd3]
 have pr:=pss_one (ps_ret (pos:=p5) (pe_lst (pos:=p4) (pa_cons (qne (X:={ X with A:=X.A.mark (some (.ref e)),calm:=false,xe:=fun _ _=>False,pn:=(e,oe') :: (d,od) :: (X.pn++pins) }) (mA:=mA) (p2:=p2) (p3:=p3) (e:=e) (oe:=oe') (d:=d) (od:=od) hi hx hd1 hd2 hb rc List.mem_cons_self (List.mem_cons_of_mem _ List.mem_cons_self) cl3 (d3.trans hd) hcls (by rw [hlook,hmn])) pa_nil hst)))
 have hiσ:(σ2.set i (some (.ref e)))[i]?=some (some (.ref e)):=by
  rw [List.getElem?_set_self]
  rw [I2.len]
  exact (List.getElem?_eq_some_iff.mp hi).1
 refine wpAny_mono (pr [] s5 _ H2 { nx:=fun _ _=>False,rt:=D.rt } I6 ⟨hiσ,(by show 1<=sizeLine; decide),fun l hl=>qd l hl⟩) (fun fl s6 q=>?_) fun _ _ z=>z.elim
 cases fl with
 | next=>obtain ⟨_,_,_,z⟩:=q; exact z.elim
 | brk=>obtain ⟨_,_,_,z⟩:=q; exact z.elim
 | cont=>obtain ⟨_,_,_,z⟩:=q; exact z.elim
 | ret u =>
  obtain ⟨v,σ6,H6,J6,r6,q6⟩:=q
  have I7:Inv X pins σ6 H6 s6:=⟨I.ok,J6.os,J6.bare,J6.base,J6.loc,J6.cell,J6.free,J6.freeC,fun p hp=>J6.pin p (by
   show p ∈ ((e,oe') :: (d,od) :: (X.pn++pins))++[]
   rw [List.append_nil]
   exact List.mem_cons_of_mem _ (List.mem_cons_of_mem _ hp)),J6.hok,J6.len⟩
  obtain ⟨m7,hn7,_⟩:=I7.loc
  exact wpAny_nameGoes hx hn7 (by rw [I.ok.kind]; rfl) fun h8 m8 hn8 hs8=>⟨v,_,H6,I7.gone B hn8 hs8,r6,q6⟩
end
end L2
namespace L2
open PySem PySem.Spec PyProof.Rows Xc
structure Mk0 (K:PySem.W.Frag) (C:Addr):Prop where
 makes:PySem.W.makesIn K C=true
 init:PySem.W.findIn K (.ref C) "__init__" = some (some (.builtin "object.__init__"))
 kp:PySem.W.keepIn K (.ref C)=true
def qoH (C:Addr):TE:=fun _ H Q=>∀ z dz,H z=none->H dz=none->dz≠z->Q (.ref z) (upd (upd H dz (.own z)) z (.ins C dz []))
theorem qnQ {X:Cx} {C:Addr} {x:Str} {p pos:Pos} (M:Mk0 X.K C) (hg:Gl X x) (hm:X.mg x=some (.ref C)) (hdb:(x == ("__debug__" : Str))=false:=by decide):PE X (.Call (.Name x p) [] [] pos) (qoH C):=by
 intro pins s σ H Q I h
 refine wpAny_Call_Name_kw (ld_glob I hg hm ?_ hdb)
 refine PySem.W.callWith_K0 I.kIn M.kp (wpAny_call ?_)
 have hq:=h (s.heap.objs.size+1) s.heap.objs.size (I.hok.fresh (Nat.le_succ _)) (I.hok.fresh (Nat.le_refl _)) (Nat.ne_of_lt (Nat.lt_succ_self _))
 have I2:=Inv.made (C:=C) I
 have Y:=PySem.W.makes_of (M:=model X.prog X.w) I.kIn M.makes
 refine make_map0 I.kIn M.makes M.init (fun self=>PySem.W.Looks.of_pure (PySem.W.oi_bind self)) ?_
 obtain ⟨hh,g,d,t,os⟩:=s
 have hx:((hh.push PySem.W.emptyDict).push (PySem.W.instObj C hh.objs.size)).get? (hh.objs.size+1)=some (PySem.W.instObj C hh.objs.size):=by
  have:=Heap.get?_push_size (h:=hh.push PySem.W.emptyDict) (o:=PySem.W.instObj C hh.objs.size) rfl
  rw [Heap.size_push] at this
  exact this
 have t1:PySem.W.Looks (model X.prog X.w) ((hh.push PySem.W.emptyDict).push (PySem.W.instObj C hh.objs.size)) (typeOf (.ref (hh.objs.size+1))) (.ref C):=(PySem.W.Looks.ld hx).andThen .now
 have t2:PySem.W.Looks (model X.prog X.w) ((hh.push PySem.W.emptyDict).push (PySem.W.instObj C hh.objs.size)) (isInstance (.ref (hh.objs.size+1)) (.type "object")) true:=t1.andThen (Y.top.keeps fun b o e=>Heap.get?_push_of_some _ (Heap.get?_push_of_some _ e))
 refine codeAny_call_builtin PySem.W.oi_plain PySem.W.entry_oi (@PySem.W.check_slot (model X.prog X.w) _ _ _ "object.__init__" "object" "__init__" (.ref (hh.objs.size+1)) [] [] _ PySem.W.oi_kind PySem.W.oi_split t2 (PySem.W.oi_args (.ref (hh.objs.size+1))) ?_)
 rw [PySem.W.oi_run]
 exact wpAny_pure (And.intro rfl ⟨V.ref (hh.objs.size+1),_,I2,rfl,hq⟩)
end L2
namespace Pg
open PySem PySem.Spec PyProof.Rows L2 Xc
def top (i:Nat):Stmt:=PySem.Challenge.pw_undorundesk_s01_check.main.body.getD i (.Pass ⟨0,0,0,0⟩)
abbrev X3:Stmt:=inClass (top 1) 0
abbrev Vt:Stmt:=inClass (top 2) 0
abbrev Yq:Stmt:=inClass (top 3) 0
abbrev YW:Stmt:=inClass (top 4) 0
abbrev W0:Stmt:=inClass (top 5) 0
abbrev qcb:Stmt:=inClass (top 23) 0
abbrev qdC:Stmt:=top 24
abbrev qe1:Stmt:=top 25
abbrev Y8:Stmt:=top 26
abbrev qc5:Stmt:=top 27
abbrev U7:Stmt:=inClass (top 28) 0
abbrev Ui:Stmt:=inClass (top 28) 1
abbrev Vf:Stmt:=inClass (top 28) 2
abbrev Za:Stmt:=inClass (top 28) 3
abbrev Zy:Stmt:=inClass (top 28) 4
abbrev gD:Stmt:=inClass (top 28) 5
abbrev Zh:Stmt:=inClass (top 28) 6
abbrev Jd:Stmt:=inClass (top 28) 7
abbrev Uv:Stmt:=inClass (top 30) 0
abbrev KJ:Stmt:=inClass (top 31) 0
abbrev YD:Stmt:=inClass (top 32) 0
abbrev qaC:Stmt:=inClass (top 33) 0
abbrev qdc:Stmt:=inClass (top 34) 0
abbrev qa1:Stmt:=inClass (top 35) 0
abbrev qcW:Stmt:=inClass (top 36) 0
abbrev qbW:Stmt:=inClass (top 37) 0
abbrev qf7:Stmt:=top 43
abbrev qaH:Stmt:=inClass (top 44) 0
abbrev qaE:Stmt:=inClass (top 44) 1
abbrev Ky:Stmt:=inClass (top 44) 2
abbrev U5:Stmt:=inClass (top 44) 3
abbrev qae:Stmt:=inClass (top 44) 4
abbrev Ze:Stmt:=inClass (top 44) 5
abbrev Q8:Stmt:=inClass (top 44) 6
abbrev ZM:Stmt:=inClass (top 44) 7
abbrev kJ:Stmt:=inClass (top 44) 8
abbrev gr:Stmt:=inClass (top 44) 9
abbrev gQ:Stmt:=inClass (top 44) 10
abbrev Jl:Stmt:=inClass (top 44) 11
abbrev kZ:Stmt:=inClass (top 44) 12
abbrev Z4:Stmt:=inClass (top 44) 13
abbrev Y7:Stmt:=inClass (top 44) 14
abbrev J8:Stmt:=inClass (top 44) 15
abbrev Wd:Stmt:=inClass (top 44) 16
abbrev ZP:Stmt:=inClass (top 44) 17
abbrev Jm:Stmt:=inClass (top 44) 18
abbrev yG:Stmt:=inClass (top 44) 19
abbrev Zg:Stmt:=inClass (top 44) 20
abbrev j6:Stmt:=inClass (top 44) 21
abbrev QH:Stmt:=inClass (top 44) 22
abbrev Xn:Stmt:=top 46
abbrev qaQ:Stmt:=inClass (top 47) 0
abbrev Z0:Stmt:=inClass (top 47) 1
abbrev Qt:Stmt:=inClass (top 47) 2
abbrev gO:Stmt:=inClass (top 47) 3
abbrev gW:Stmt:=inClass (top 47) 4
abbrev Q3:Stmt:=inClass (top 47) 5
abbrev QG:Stmt:=inClass (top 47) 6
abbrev Qq:Stmt:=inClass (top 47) 7
abbrev Xd:Stmt:=inClass (top 47) 8
abbrev Vh:Stmt:=inClass (top 47) 9
abbrev qfS:Stmt:=top 54
abbrev qaO:Stmt:=top 55
abbrev X6:Stmt:=top 56
abbrev qgt:Stmt:=top 58
def Fn (K:PySem.W.Frag) (x qual:Str) (st:Stmt) (f:Addr) (ps:List Str):Prop:=∃ fd:FuncData,Fun K x qual st f fd/\Binds K fd ps []
theorem qe0 {K:PySem.W.Frag} {x qual:Str} {st:Stmt} {f:Addr} {ps:List Str} {oc:Value} {od an:Option Addr} {osl:Array (Option Value)} {kV doc pm cdv ct:Value}
  (l:K.lookup f=some ⟨oc,od,.func (PySem.W.fnOf x qual (defArgs st) (defBody st) (defScope st) .none kV doc pm an cdv ct),osl⟩) (c:PySem.W.codeIn K cdv qual=true) (k:PySem.W.keepIn K (.ref f)=true)
  (b:∀ (kV doc pm:Value) (an:Option Addr) (cdv ct:Value) (us:List Value),us.length=ps.length->bindArgs (PySem.W.fnOf x qual (defArgs st) (defBody st) (defScope st) .none kV doc pm an cdv ct) ⟨us,[]⟩=pure (ps.zip us)):Fn K x qual st f ps :=
 ⟨_,fun_mk l c k,(fun_mk l c k).binds b⟩
theorem qhn:FnScope ["self","number"] ["self","number"] (defScope X3):=⟨rfl,rfl,rfl,by decide +kernel,rfl,by decide +kernel,by decide +kernel⟩
theorem qf6:FnScope ["self"] ["self"] (defScope Vt):=⟨rfl,rfl,rfl,by decide +kernel,rfl,by decide +kernel,by decide +kernel⟩
theorem qgD:FnScope ["self","place"] ["self","place"] (defScope Yq):=⟨rfl,rfl,rfl,by decide +kernel,rfl,by decide +kernel,by decide +kernel⟩
theorem qgI:FnScope ["self"] ["self"] (defScope YW):=⟨rfl,rfl,rfl,by decide +kernel,rfl,by decide +kernel,by decide +kernel⟩
theorem qfx:FnScope ["self","place"] ["self","place"] (defScope W0):=⟨rfl,rfl,rfl,by decide +kernel,rfl,by decide +kernel,by decide +kernel⟩
theorem qiN:FnScope ["self","kind","value","place","spelling"] ["self","kind","value","place","spelling"] (defScope qcb):=⟨rfl,rfl,rfl,by decide +kernel,rfl,by decide +kernel,by decide +kernel⟩
theorem qjg:FnScope ["byte"] ["byte"] (defScope qdC):=⟨rfl,rfl,rfl,by decide +kernel,rfl,by decide +kernel,by decide +kernel⟩
theorem qjR:FnScope ["byte"] ["byte"] (defScope qe1):=⟨rfl,rfl,rfl,by decide +kernel,rfl,by decide +kernel,by decide +kernel⟩
theorem qgE:FnScope ["byte"] ["byte"] (defScope Y8):=⟨rfl,rfl,rfl,by decide +kernel,rfl,by decide +kernel,by decide +kernel⟩
theorem qi4:FnScope ["byte"] ["byte"] (defScope qc5):=⟨rfl,rfl,rfl,by decide +kernel,rfl,by decide +kernel,by decide +kernel⟩
theorem qhA:FnScope ["self","text"] ["self","text"] (defScope U7):=⟨rfl,rfl,rfl,by decide +kernel,rfl,by decide +kernel,by decide +kernel⟩
theorem qcR:FnScope ["self","byte"] ["self"] (defScope Ui):=⟨rfl,rfl,rfl,by decide +kernel,rfl,by decide +kernel,by decide +kernel⟩
theorem qgh:FnScope ["self","place"] ["self","place"] (defScope Vf):=⟨rfl,rfl,rfl,by decide +kernel,rfl,by decide +kernel,by decide +kernel⟩
theorem VB:FnScope ["self","byte"] ["self"] (defScope Za):=⟨rfl,rfl,rfl,by decide +kernel,rfl,by decide +kernel,by decide +kernel⟩
theorem qdE:FnScope ["self"] ["self"] (defScope Zy):=⟨rfl,rfl,rfl,by decide +kernel,rfl,by decide +kernel,by decide +kernel⟩
theorem VH:FnScope ["self","place","value","byte"] ["self"] (defScope Zh):=⟨rfl,rfl,rfl,by decide +kernel,rfl,by decide +kernel,by decide +kernel⟩
theorem GR:FnScope ["self","first","place","kind","length"] ["self","first"] (defScope Jd):=⟨rfl,rfl,rfl,by decide +kernel,rfl,by decide +kernel,by decide +kernel⟩
theorem qhi:FnScope ["self","global_names","procedures","main"] ["self","global_names","procedures","main"] (defScope Uv):=⟨rfl,rfl,rfl,by decide +kernel,rfl,by decide +kernel,by decide +kernel⟩
theorem qg1:FnScope ["self","name","is_row","size","number"] ["self","name","is_row","size","number"] (defScope KJ):=⟨rfl,rfl,rfl,by decide +kernel,rfl,by decide +kernel,by decide +kernel⟩
theorem qgG:FnScope ["self","name","parameters","block"] ["self","name","parameters","block"] (defScope YD):=⟨rfl,rfl,rfl,by decide +kernel,rfl,by decide +kernel,by decide +kernel⟩
theorem qhS:FnScope ["self","variable","sign","expression"] ["self","variable","sign","expression"] (defScope qaC):=⟨rfl,rfl,rfl,by decide +kernel,rfl,by decide +kernel,by decide +kernel⟩
theorem qjE:FnScope ["self","left","right"] ["self","left","right"] (defScope qdc):=⟨rfl,rfl,rfl,by decide +kernel,rfl,by decide +kernel,by decide +kernel⟩
theorem qh9:FnScope ["self","kind","opening","before","first","second","closing","behind"] ["self","kind","opening","before","first","second","closing","behind"] (defScope qa1):=⟨rfl,rfl,rfl,by decide +kernel,rfl,by decide +kernel,by decide +kernel⟩
theorem qjr:FnScope ["self","kind","procedure","handed"] ["self","kind","procedure","handed"] (defScope qcW):=⟨rfl,rfl,rfl,by decide +kernel,rfl,by decide +kernel,by decide +kernel⟩
theorem qiR:FnScope ["self","opening","name","before","block","closing","behind"] ["self","opening","name","before","block","closing","behind"] (defScope qbW):=⟨rfl,rfl,rfl,by decide +kernel,rfl,by decide +kernel,by decide +kernel⟩
theorem qkF:FnScope ["waiting","found","strength"] ["waiting","found","strength"] (defScope qf7):=⟨rfl,rfl,rfl,by decide +kernel,rfl,by decide +kernel,by decide +kernel⟩
theorem qdO:FnScope ["self","text"] ["self","text"] (defScope qaH):=⟨rfl,rfl,rfl,by decide +kernel,rfl,by decide +kernel,by decide +kernel⟩
theorem qec:FnScope ["self","kind","taken"] ["self","kind"] (defScope qaE):=⟨rfl,rfl,rfl,by decide +kernel,rfl,by decide +kernel,by decide +kernel⟩
theorem qgO:FnScope ["self","kind"] ["self","kind"] (defScope Ky):=⟨rfl,rfl,rfl,by decide +kernel,rfl,by decide +kernel,by decide +kernel⟩
theorem qhz:FnScope ["self","kind"] ["self","kind"] (defScope U5):=⟨rfl,rfl,rfl,by decide +kernel,rfl,by decide +kernel,by decide +kernel⟩
theorem qhp:FnScope ["self","kind"] ["self","kind"] (defScope qae):=⟨rfl,rfl,rfl,by decide +kernel,rfl,by decide +kernel,by decide +kernel⟩
theorem V0:FnScope ["self","global_names","procedures","main"] ["self"] (defScope Ze):=⟨rfl,rfl,rfl,by decide +kernel,rfl,by decide +kernel,by decide +kernel⟩
theorem V2:FnScope ["self","found"] ["self"] (defScope Q8):=⟨rfl,rfl,rfl,by decide +kernel,rfl,by decide +kernel,by decide +kernel⟩
theorem Gq:FnScope ["self","name","number"] ["self"] (defScope ZM):=⟨rfl,rfl,rfl,by decide +kernel,rfl,by decide +kernel,by decide +kernel⟩
theorem Wk:FnScope ["self","name","parameters"] ["self"] (defScope kJ):=⟨rfl,rfl,rfl,by decide +kernel,rfl,by decide +kernel,by decide +kernel⟩
theorem JD:FnScope ["self","found"] ["self"] (defScope gr):=⟨rfl,rfl,rfl,by decide +kernel,rfl,by decide +kernel,by decide +kernel⟩
theorem JN:FnScope ["self","name"] ["self"] (defScope gQ):=⟨rfl,rfl,rfl,by decide +kernel,rfl,by decide +kernel,by decide +kernel⟩
theorem Xf:FnScope ["self","statements"] ["self"] (defScope Jl):=⟨rfl,rfl,rfl,by decide +kernel,rfl,by decide +kernel,by decide +kernel⟩
theorem Wm:FnScope ["self","kind","statement"] ["self"] (defScope kZ):=⟨rfl,rfl,rfl,by decide +kernel,rfl,by decide +kernel,by decide +kernel⟩
theorem Gw:FnScope ["self","variable","sign"] ["self"] (defScope Z4):=⟨rfl,rfl,rfl,by decide +kernel,rfl,by decide +kernel,by decide +kernel⟩
theorem qa6:FnScope ["self","opening","before","first","second","closing"] ["self"] (defScope Y7):=⟨rfl,rfl,rfl,by decide +kernel,rfl,by decide +kernel,by decide +kernel⟩
theorem XJ:FnScope ["self","opening","before","first","second","closing"] ["self"] (defScope J8):=⟨rfl,rfl,rfl,by decide +kernel,rfl,by decide +kernel,by decide +kernel⟩
theorem XD:FnScope ["self","kind","procedure","handed"] ["self","kind"] (defScope Wd):=⟨rfl,rfl,rfl,by decide +kernel,rfl,by decide +kernel,by decide +kernel⟩
theorem Gu:FnScope ["self","found"] ["self"] (defScope ZP):=⟨rfl,rfl,rfl,by decide +kernel,rfl,by decide +kernel,by decide +kernel⟩
theorem Ko:FnScope ["self","opening","name","before","block","closing"] ["self"] (defScope Jm):=⟨rfl,rfl,rfl,by decide +kernel,rfl,by decide +kernel,by decide +kernel⟩
theorem JG:FnScope ["self","found","waiting"] ["self"] (defScope yG):=⟨rfl,rfl,rfl,by decide +kernel,rfl,by decide +kernel,by decide +kernel⟩
theorem V1:FnScope ["self","negations","found"] ["self"] (defScope Zg):=⟨rfl,rfl,rfl,by decide +kernel,rfl,by decide +kernel,by decide +kernel⟩
theorem Zv:FnScope ["self","found"] ["self"] (defScope j6):=⟨rfl,rfl,rfl,by decide +kernel,rfl,by decide +kernel,by decide +kernel⟩
theorem WX:FnScope ["self","name","found"] ["self"] (defScope QH):=⟨rfl,rfl,rfl,by decide +kernel,rfl,by decide +kernel,by decide +kernel⟩
theorem qb9:FnScope ["program","search","procedure"] ["program"] (defScope Xn):=⟨rfl,rfl,rfl,by decide +kernel,rfl,by decide +kernel,by decide +kernel⟩
theorem qdQ:FnScope ["self","procedures","procedure"] ["self","procedures"] (defScope qaQ):=⟨rfl,rfl,rfl,by decide +kernel,rfl,by decide +kernel,by decide +kernel⟩
theorem Gi:FnScope ["self","declared","block","one"] ["self","declared","block"] (defScope Z0):=⟨rfl,rfl,rfl,by decide +kernel,rfl,by decide +kernel,by decide +kernel⟩
theorem gR:FnScope ["self","block","statement"] ["self","block"] (defScope Qt):=⟨rfl,rfl,rfl,by decide +kernel,rfl,by decide +kernel,by decide +kernel⟩
theorem JR:FnScope ["self","variables","expression","changed","variable"] ["self","variables","expression"] (defScope gO):=⟨rfl,rfl,rfl,by decide +kernel,rfl,by decide +kernel,by decide +kernel⟩
theorem qb2:FnScope ["self","statement"] ["self","statement"] (defScope gW):=⟨rfl,rfl,rfl,by decide +kernel,rfl,by decide +kernel,by decide +kernel⟩
theorem V6:FnScope ["self","statement","procedure","met","name","parameter"] ["self","statement"] (defScope Q3):=⟨rfl,rfl,rfl,by decide +kernel,rfl,by decide +kernel,by decide +kernel⟩
theorem qcu:FnScope ["self","statement"] ["self","statement"] (defScope QG):=⟨rfl,rfl,rfl,by decide +kernel,rfl,by decide +kernel,by decide +kernel⟩
theorem WW:FnScope ["self","tokens","token"] ["self","tokens"] (defScope Qq):=⟨rfl,rfl,rfl,by decide +kernel,rfl,by decide +kernel,by decide +kernel⟩
theorem qg4:FnScope ["self","name","is_row"] ["self","name","is_row"] (defScope Xd):=⟨rfl,rfl,rfl,by decide +kernel,rfl,by decide +kernel,by decide +kernel⟩
theorem qaz:FnScope ["self","changed","tokens","token"] ["self","changed","tokens"] (defScope Vh):=⟨rfl,rfl,rfl,by decide +kernel,rfl,by decide +kernel,by decide +kernel⟩
theorem qhE:FnScope ["text","program","broken"] ["text"] (defScope qfS):=⟨rfl,rfl,rfl,by decide +kernel,rfl,by decide +kernel,by decide +kernel⟩
theorem qjh:FnScope ["text","program","refusal"] ["text"] (defScope qgt):=⟨rfl,rfl,rfl,by decide +kernel,rfl,by decide +kernel,by decide +kernel⟩
set_option genInjectivity false in
structure Adr where
 qi:Addr
 zy:Addr
 zR:Addr
 zB:Addr
 zu:Addr
 qW:Addr
 qC:Addr
 z7:Addr
 zH:Addr
 zE:Addr
 qK:Addr
 zN:Addr
 qx:Addr
 zr:Addr
 qJ:Addr
 z6:Addr
 qg:Addr
 qt:Addr
 jo:Addr
 zX:Addr
 z8:Addr
 z9:Addr
 zZ:Addr
 jF:Addr
 jQ:Addr
 jY:Addr
 jj:Addr
 jP:Addr
 jk:Addr
 jn:Addr
 zY:Addr
 zc:Addr
 zp:Addr
 zK:Addr
 zf:Addr
 zM:Addr
 jr:Addr
 je:Addr
 jb:Addr
 jx:Addr
 jL:Addr
 jw:Addr
 jM:Addr
 jH:Addr
 wu:Addr
 jy:Addr
 jA:Addr
 jf:Addr
 jl:Addr
 jm:Addr
 zg:Addr
 zj:Addr
 zA:Addr
 qR:Addr
 qN:Addr
 qT:Addr
 qI:Addr
 qL:Addr
 zx:Addr
 jc:Addr
 zU:Addr
 zT:Addr
 zq:Addr
 zL:Addr
 qp:Addr
 qX:Addr
 qu:Addr
 qP:Addr
 jq:Addr
 jz:Addr
 zz:Addr
 qM:Addr
 qQ:Addr
 qU:Addr
 zm:Addr
 qZ:Addr
 qY:Addr
 jg:Addr
 zW:Addr
 wk:Addr
 jE:Addr
 ju:Addr
 wO:Addr
 jX:Addr
 wQ:Addr
 Q6:Addr
 jd:Addr
 wg:Addr
 wy:Addr
structure Txt (K:PySem.W.Frag) (mg:Str->Option Value) (A:Adr):Prop where
 qy:Cls K A.qW
 X8:mg "Token" = some (.ref A.qW)
 qaj:Mk K A.qW A.jF
 zb:NoAttr K A.qW "kind"
 zV:NoAttr K A.qW "value"
 zO:NoAttr K A.qW "place"
 Vn:NoAttr K A.qW "spelling"
 qD:Cls K A.qC
 qhy:mg "Scanner" = some (.ref A.qC)
 qhH:Mk K A.qC A.jk
 wG:NoAttr K A.qC "text"
 qH:NoAttr K A.qC "position"
 wU:Cls K A.z7
 qhw:mg "Program" = some (.ref A.z7)
 qhc:Mk K A.z7 A.jr
 j5:NoAttr K A.z7 "global_names"
 jT:NoAttr K A.z7 "procedures"
 Xu:NoAttr K A.z7 "main"
 yz:Cls K A.zH
 VM:mg "Declared" = some (.ref A.zH)
 V8:Mk K A.zH A.je
 yF:NoAttr K A.zH "name"
 Qh:NoAttr K A.zH "is_row"
 YJ:NoAttr K A.zH "size"
 qax:NoAttr K A.zH "number"
 j9:Cls K A.zE
 qge:mg "Procedure" = some (.ref A.zE)
 qgr:Mk K A.zE A.jb
 vN:NoAttr K A.zE "name"
 jO:NoAttr K A.zE "parameters"
 JT:NoAttr K A.zE "block"
 qan:Cls K A.qK
 qgl:mg "Change" = some (.ref A.qK)
 qiL:Mk K A.qK A.jx
 JV:NoAttr K A.qK "variable"
 qd0:NoAttr K A.qK "sign"
 ZD:NoAttr K A.qK "expression"
 qbs:Cls K A.zN
 qia:mg "Swap" = some (.ref A.zN)
 qkf:Mk K A.zN A.jL
 qbX:NoAttr K A.zN "left"
 qaF:NoAttr K A.zN "right"
 wK:Cls K A.qx
 qcF:mg "Forked" = some (.ref A.qx)
 qfp:Mk K A.qx A.jw
 qd8:NoAttr K A.qx "kind"
 qbf:NoAttr K A.qx "opening"
 Yo:NoAttr K A.qx "before"
 Kh:NoAttr K A.qx "first"
 Y0:NoAttr K A.qx "second"
 qba:NoAttr K A.qx "closing"
 Y4:NoAttr K A.qx "behind"
 Zk:Cls K A.zr
 qic:mg "Call" = some (.ref A.zr)
 qke:Mk K A.zr A.jM
 qgp:NoAttr K A.zr "kind"
 vO:NoAttr K A.zr "procedure"
 WF:NoAttr K A.zr "handed"
 wF:Cls K A.qJ
 qg3:mg "Local" = some (.ref A.qJ)
 qjb:Mk K A.qJ A.jH
 qbE:NoAttr K A.qJ "opening"
 Qg:NoAttr K A.qJ "name"
 Xh:NoAttr K A.qJ "before"
 Ut:NoAttr K A.qJ "block"
 qbx:NoAttr K A.qJ "closing"
 GK:NoAttr K A.qJ "behind"
 qbt:Cls K A.z6
 qjV:mg "Skip" = some (.ref A.z6)
 qj9:Mk0 K A.z6
 qe:Cls K A.qg
 qij:mg "Parser" = some (.ref A.qg)
 qir:Mk K A.qg A.jy
 QX:NoAttr K A.qg "scanner"
 za:NoAttr K A.qg "token"
 vg:NoAttr K A.qg "depth"
 qF:Cls K A.qt
 qiD:mg "Search" = some (.ref A.qt)
 qip:Mk K A.qt A.jz
 jt:NoAttr K A.qt "broken"
 wB:NoAttr K A.qt "procedures"
 jZ:NoAttr K A.qt "seen"
 WD:mg "Refusal" = some (.ref A.qi)
 qfe:mg "OutOfRange" = some (.ref A.zy)
 qfl:RefC K A.qi A.zy
 qff:XCls K A.zy "number"
 qfn:XMk K A.zy A.zX
 qgq:mg "Misplaced" = some (.ref A.zR)
 qf0:RefC K A.qi A.zR
 qf3:XCls K A.zR "number"
 qfz:XMk K A.zR A.z8
 J4:mg "OverLimit" = some (.ref A.zB)
 Wr:RefC K A.qi A.zB
 qfv:XCls K A.zB "number"
 Wa:XMk K A.zB A.z9
 qfg:mg "RuleBroken" = some (.ref A.zu)
 qfm:RefC K A.qi A.zu
 qfk:XCls K A.zu "number"
 qfo:XMk K A.zu A.zZ
 KH:qj0 K A.qi "__init__" A.jo
 qcP:Fn K "__init__" "Refusal.__init__" X3 A.jo ["self","number"]
 qap:Fn K "__init__" "OutOfRange.__init__" Vt A.zX ["self"]
 qa9:Fn K "__init__" "Misplaced.__init__" Yq A.z8 ["self","place"]
 qbc:Fn K "__init__" "OverLimit.__init__" YW A.z9 ["self"]
 qaw:Fn K "__init__" "RuleBroken.__init__" W0 A.zZ ["self","place"]
 qfd:Fn K "__init__" "Token.__init__" qcb A.jF ["self","kind","value","place","spelling"]
 KR:Fn K "is_letter" "is_letter" qdC A.jQ ["byte"]
 qbG:mg "is_letter" = some (.ref A.jQ)
 Yc:Fn K "is_digit" "is_digit" qe1 A.jY ["byte"]
 qal:mg "is_digit" = some (.ref A.jY)
 Vs:Fn K "is_within_word" "is_within_word" Y8 A.jj ["byte"]
 qa5:mg "is_within_word" = some (.ref A.jj)
 qco:Fn K "letter_of" "letter_of" qc5 A.jP ["byte"]
 qgn:mg "letter_of" = some (.ref A.jP)
 qcw:Fn K "__init__" "Scanner.__init__" U7 A.jk ["self","text"]
 qcE:Fn K "scan" "Scanner.scan" Ui A.jn ["self"]
 Xe:Meth K A.qC "scan" A.jn
 qas:Fn K "byte_at" "Scanner.byte_at" Vf A.zY ["self","place"]
 jJ:Meth K A.qC "byte_at" A.zY
 Yd:Fn K "pass_blanks" "Scanner.pass_blanks" Za A.zc ["self"]
 V7:Meth K A.qC "pass_blanks" A.zc
 V3:Fn K "pass_remark" "Scanner.pass_remark" Zy A.zp ["self"]
 Yg:Meth K A.qC "pass_remark" A.zp
 GP:Fn K "scan_word" "Scanner.scan_word" gD A.zK ["self"]
 GZ:Meth K A.qC "scan_word" A.zK
 VP:Fn K "scan_number" "Scanner.scan_number" Zh A.zf ["self"]
 V5:Meth K A.qC "scan_number" A.zf
 KZ:Fn K "scan_sign" "Scanner.scan_sign" Jd A.zM ["self","first"]
 Xr:Meth K A.qC "scan_sign" A.zM
 qcL:Fn K "__init__" "Program.__init__" Uv A.jr ["self","global_names","procedures","main"]
 qcm:Fn K "__init__" "Declared.__init__" KJ A.je ["self","name","is_row","size","number"]
 qbe:Fn K "__init__" "Procedure.__init__" YD A.jb ["self","name","parameters","block"]
 qdW:Fn K "__init__" "Change.__init__" qaC A.jx ["self","variable","sign","expression"]
 qfY:Fn K "__init__" "Swap.__init__" qdc A.jL ["self","left","right"]
 qee:Fn K "__init__" "Forked.__init__" qa1 A.jw ["self","kind","opening","before","first","second","closing","behind"]
 qgi:Fn K "__init__" "Call.__init__" qcW A.jM ["self","kind","procedure","handed"]
 qfi:Fn K "__init__" "Local.__init__" qbW A.jH ["self","opening","name","before","block","closing","behind"]
 qek:Fn K "release" "release" qf7 A.wu ["waiting","found","strength"]
 qez:mg "release" = some (.ref A.wu)
 qdN:Fn K "__init__" "Parser.__init__" qaH A.jy ["self","text"]
 qed:Fn K "take" "Parser.take" qaE A.jA ["self","kind"]
 ql:Meth K A.qg "take" A.jA
 qck:Fn K "passes" "Parser.passes" Ky A.jf ["self","kind"]
 wj:Meth K A.qg "passes" A.jf
 qcD:Fn K "enter" "Parser.enter" U5 A.jl ["self","kind"]
 Ql:Meth K A.qg "enter" A.jl
 qcz:Fn K "leave" "Parser.leave" qae A.jm ["self","kind"]
 JF:Meth K A.qg "leave" A.jm
 VJ:Fn K "read_program" "Parser.read_program" Ze A.zg ["self"]
 VL:Meth K A.qg "read_program" A.zg
 V9:Fn K "read_globals" "Parser.read_globals" Q8 A.zj ["self"]
 VN:Meth K A.qg "read_globals" A.zj
 Gs:Fn K "read_global" "Parser.read_global" ZM A.zA ["self"]
 Q5:Meth K A.qg "read_global" A.zA
 Wh:Fn K "read_procedure" "Parser.read_procedure" kJ A.qR ["self"]
 Wl:Meth K A.qg "read_procedure" A.qR
 JC:Fn K "read_parameters" "Parser.read_parameters" gr A.qN ["self"]
 JB:Meth K A.qg "read_parameters" A.qN
 J3:Fn K "read_parameter" "Parser.read_parameter" gQ A.qT ["self"]
 yX:Meth K A.qg "read_parameter" A.qT
 Xo:Fn K "read_block" "Parser.read_block" Jl A.qI ["self"]
 jG:Meth K A.qg "read_block" A.qI
 yV:Fn K "read_statement" "Parser.read_statement" kZ A.qL ["self"]
 Wc:Meth K A.qg "read_statement" A.qL
 Gg:Fn K "read_change" "Parser.read_change" Z4 A.zx ["self"]
 Gf:Meth K A.qg "read_change" A.zx
 qa4:Fn K "read_if" "Parser.read_if" Y7 A.jc ["self"]
 qa8:Meth K A.qg "read_if" A.jc
 Xw:Fn K "read_from" "Parser.read_from" J8 A.zU ["self"]
 XH:Meth K A.qg "read_from" A.zU
 XC:Fn K "read_call" "Parser.read_call" Wd A.zT ["self","kind"]
 Xx:Meth K A.qg "read_call" A.zT
 Gk:Fn K "read_handed" "Parser.read_handed" ZP A.zq ["self"]
 Gx:Meth K A.qg "read_handed" A.zq
 KY:Fn K "read_local" "Parser.read_local" Jm A.zL ["self"]
 GQ:Meth K A.qg "read_local" A.zL
 wA:Fn K "read_expression" "Parser.read_expression" yG A.qp ["self"]
 zQ:Meth K A.qg "read_expression" A.qp
 Ye:Fn K "read_operand" "Parser.read_operand" Zg A.qX ["self"]
 QS:Meth K A.qg "read_operand" A.qX
 Zd:Fn K "read_plain_operand" "Parser.read_plain_operand" j6 A.qu ["self"]
 Q7:Meth K A.qg "read_plain_operand" A.qu
 WR:Fn K "read_variable" "Parser.read_variable" QH A.qP ["self"]
 wM:Meth K A.qg "read_variable" A.qP
 YG:Fn K "broken_places" "broken_places" Xn A.jq ["program"]
 qbz:mg "broken_places" = some (.ref A.jq)
 qd1:Fn K "__init__" "Search.__init__" qaQ A.jz ["self","procedures"]
 Gj:Fn K "look_within" "Search.look_within" Z0 A.zz ["self","declared","block"]
 Zq:Meth K A.qt "look_within" A.zz
 kI:Fn K "look_at_block" "Search.look_at_block" Qt A.qM ["self","block"]
 j4:Meth K A.qt "look_at_block" A.qM
 JW:Fn K "look_at_change" "Search.look_at_change" gO A.qQ ["self","variables","expression"]
 yD:Meth K A.qt "look_at_change" A.qQ
 JS:Fn K "look_at_forked" "Search.look_at_forked" gW A.qU ["self","statement"]
 Wv:Meth K A.qt "look_at_forked" A.qU
 Yb:Fn K "look_at_call" "Search.look_at_call" Q3 A.zm ["self","statement"]
 VG:Meth K A.qt "look_at_call" A.zm
 WQ:Fn K "look_at_local" "Search.look_at_local" QG A.qZ ["self","statement"]
 WY:Meth K A.qt "look_at_local" A.qZ
 WT:Fn K "look_at_names" "Search.look_at_names" Qq A.qY ["self","tokens"]
 jD:Meth K A.qt "look_at_names" A.qY
 qbH:Fn K "expect" "Search.expect" Xd A.jg ["self","name","is_row"]
 Y6:Meth K A.qt "expect" A.jg
 qau:Fn K "keep_out" "Search.keep_out" Vh A.zW ["self","changed","tokens"]
 Wi:Meth K A.qt "keep_out" A.zW
 qeo:Fn K "take_in" "take_in" qfS A.wk ["text"]
 qhB:mg "take_in" = some (.ref A.wk)
 WP:Fn K "count_words" "count_words" qaO A.jE ["program"]
 Um:mg "count_words" = some (.ref A.jE)
 Kf:Fn K "is_too_large" "is_too_large" X6 A.ju ["program"]
 qcv:mg "is_too_large" = some (.ref A.ju)
 qgP:Fn K "check" "check" qgt A.wO ["text"]
 qmr:mg "check" = some (.ref A.wO)
 qd4:∃ tk,mg "LONGEST_WORD" = some (.int 31 tk)
 Wy:∃ tk,mg "FIRST_NUMBER_TOO_LARGE" = some (.int 4294967296 tk)
 qha:∃ tk,mg "LINE_END" = some (.int 10 tk)
 qji:∃ tk,mg "REMARK" = some (.int 35 tk)
 qlN:∃ tk,mg "LESS" = some (.int 60 tk)
 qjD:∃ tk,mg "EQUALS" = some (.int 61 tk)
 qim:∃ tk,mg "GREATER" = some (.int 62 tk)
 qb5:∃ tk,mg "UNDERSCORE" = some (.int 95 tk)
 qcB:∃ tk,mg "NO_BYTE" = some (.int 256 tk)
 qiw:∃ tk,mg "DEEPEST" = some (.int 32 tk)
 qgc:∃ tk,mg "MOST_BYTES" = some (.int 65536 tk)
 qfK:∃ tk,mg "MOST_WORDS" = some (.int 4096 tk)
 qdV:∃ tk,mg "MOST_GLOBALS" = some (.int 256 tk)
 qbg:∃ tk,mg "MOST_PROCEDURES" = some (.int 256 tk)
 qa7:∃ tk,mg "MOST_PARAMETERS" = some (.int 16 tk)
 qcQ:∃ tk,mg "SMALL_LETTERS" = some (.str "abcdefghijklmnopqrstuvwxyz" tk)
 qcH:∃ tk,mg "LARGE_LETTERS" = some (.str "ABCDEFGHIJKLMNOPQRSTUVWXYZ" tk)
 qjF:∃ tk,mg "DIGITS" = some (.str "0123456789" tk)
 qgK:mg "KEYWORDS" = some (.ref A.jX)
 qio:mg "BLANKS" = some (.ref A.wQ)
 qi2:mg "SIGNS" = some (.ref A.Q6)
 ZV:mg "SIGNS_WITH_EQUALS" = some (.ref A.jd)
 GD:mg "STRENGTHS" = some (.ref A.wg)
 qhx:mg "CHANGES" = some (.ref A.wy)
 Ke:mg "len" = none
 qkp:mg "min" = none
 qm6:mg "sum" = none
 qm7:mg "any" = none
 qll:mg "list" = none
 qhl:mg "reversed" = none
 qm1:mg "zip" = none
 Zc:mg "isinstance" = none
end Pg
namespace Pg
open PySem PySem.Spec PyProof.Rows L2 Xc
open Sc25 (Bytes)
def Ok (P:Program) (w:World) (K:PySem.W.Frag) (mg:Str->Option Value) (base:Heap) (CX:CXT) (k:Nat) (f:Addr) (ps:List Str) (sp:Sp):Prop:=∃ fd,FnOk P w K mg base CX k f fd ps sp/\Binds K fd ps []
theorem Ok.mono {P:Program} {w:World} {K:PySem.W.Frag} {mg:Str->Option Value} {base:Heap} {CX:CXT} {j k:Nat} {f:Addr} {ps:List Str} {sp:Sp} (h:Ok P w K mg base CX j f ps sp) (hk:j<=k):Ok P w K mg base CX k f ps sp :=
 let ⟨fd,G,b⟩:=h; ⟨fd,G.mono hk,b⟩
def Yi (C:Addr) (fs:List Str):Sp:=fun vs H Q _=>∃ x dx args,vs=.ref x :: args/\args.length=fs.length/\H x=some (.ins C dx [])/\Q .non (upd H x (.ins C dx (fs.zip args)))
def qoB (K:PySem.W.Frag):Sp:=fun vs H Q _=>∃ e C tp n,vs=[.ref e,.int n]/\H e=some (xO e C tp none)/\XCls K C "number" /\ ∀ d,H d=none->Q .non (upd (upd H d (.xd [("number",.int n)])) e (xO e C tp (some d)))
def qhm (C:Addr) (n:Int):Sp:=fun vs H Q _=>∃ e tp,vs=[.ref e]/\H e=some (xO e C tp none)/\∀ d,H d=none->Q .non (upd (upd H d (.xd [("number",.int n)])) e (xO e C tp (some d)))
def qi0 (C:Addr) (n:Int):Sp:=fun vs H Q _=>∃ e tp k,vs=[.ref e,.int k]/\H e=some (xO e C tp none)/\∀ d,H d=none->Q .non (upd (upd H d (.xd [("number",.int (n-k))])) e (xO e C tp (some d)))
def qos (C:Addr):Sp:=fun vs H Q _=>∃ x dx a,vs=[.ref x,a]/\H x=some (.ins C dx [])/\Q .non (upd H x (.ins C dx [("text",a),("position",.int 0)]))
def iniT (K:PySem.W.Frag):Nat->List Str->TS
 | _,[]=>fun D σ H=>D.nx σ H
 | i,[f]=>sFld K (tVar 0) (tVar i) f
 | i,f :: g :: fs=>tSeq (sFld K (tVar 0) (tVar i) f) (iniT K (i+1) (g :: fs))
def qkU (K:PySem.W.Frag) (C:Addr):List Str->Prop
 | []=>True
 | f :: fs=>NoAttr K C f/\qkU K C fs
theorem qg5 {f:Str} {v:V}:∀ {fs:List (Str×V)},f ∉ fs.map (·.1)->putF f v fs=fs++[(f,v)]
 | [],_=>rfl
 | (g,x) :: r,h=>by
  have h1:¬ g=f:=fun e=>h (by rw [e]; exact List.mem_cons_self)
  show (if g=f then _ else _)=_
  rw [if_neg h1,qg5 fun q=>h (List.mem_cons_of_mem _ q)]
  rfl
theorem qjW {K:PySem.W.Frag} {C x dx:Addr} (c:Cls K C) {D:Ends} {σ:L2.St} (h0:σ[0]?=some (some (.ref x))):∀ (fs:List Str) (i:Nat) (dn:List (Str×V)) (args:List V) (H:Hp),(∀ j,σ[i+j]?=(args[j]?).map some)->args.length=fs.length->qkU K C fs->(dn.map (·.1)++fs).Nodup->dn.length+fs.length < 1000->H x=some (.ins C dx dn) ->
  D.nx σ (upd H x (.ins C dx (dn++fs.zip args)))->fs≠[]->iniT K i fs D σ H
 | [],_,_,_,_,_,_,_,_,_,_,_,n=>absurd rfl n
 | [f],i,dn,[a],H,hs,_,na,nd,lt,hx,q,_=>by
  refine ⟨a,hs 0,_,h0,x,C,dx,dn,rfl,hx,c,na.1,Nat.lt_of_succ_lt lt,?_⟩
  rw [qg5 fun z=>(List.nodup_append.mp nd).2.2 _ z _ List.mem_cons_self rfl]
  exact q
 | f :: g :: fs,i,dn,a :: args,H,hs,hl,na,nd,lt,hx,q,_=>by
  refine ⟨a,hs 0,_,h0,x,C,dx,dn,rfl,hx,c,na.1,by simp only [List.length_cons] at lt; omega,?_⟩
  rw [qg5 fun z=>(List.nodup_append.mp nd).2.2 _ z _ List.mem_cons_self rfl]
  refine qjW c h0 (g :: fs) (i+1) (dn++[(f,a)]) args _ (fun j=>?_) (Nat.succ.inj hl) na.2 ?_ ?_ upd_same ?_ (fun z=>nomatch z)
  ·rw [show i+1+j=i+(j+1) by omega,hs (j+1)]; rfl
  ·rw [List.map_append,List.append_assoc]; exact nd
  ·rw [List.length_append]; simp only [List.length_cons,List.length_nil] at lt ⊢; omega
  ·rw [upd_upd,List.append_assoc]; exact q
section
variable {P:Program} {w:World} {K:PySem.W.Frag} {mg:Str->Option Value} {base:Heap} {A:Adr}
theorem Kc {qual:Str} {st:Stmt} {f C:Addr} {fs:List Str} (F:Fn K "__init__" qual st f ("self" :: fs)) (S:FnScope ("self" :: fs) ("self" :: fs) (defScope st)) (c:Cls K C) (na:qkU K C fs) (nd:fs.Nodup) (lt:fs.length < 1000) (ne:fs≠[])
  (dv:∀ (cdv:Value) (AA:Around) (outer:List Env) (s:Shared) (H:Hp) (E:XK),PSs (cxOf CX0 P w K mg base ("self" :: fs) qual (defScope st) f cdv AA outer s H E).nox (defBody st) (iniT K 1 fs)):Ok P w K mg base CX0 1 f ("self" :: fs) (Yi C fs):=by
 obtain ⟨fd,F,b⟩:=F
 refine ⟨fd,F.ok S (fun vs H Q E h=>?_) (fun cdv AA outer s H vs Q E hr h=>⟨_,dv cdv AA outer s H E,?_⟩),b⟩
 ·obtain ⟨x,dx,args,rfl,hl,_⟩:=h
  rw [List.length_cons,hl]
  rfl
 ·obtain ⟨x,dx,args,rfl,hl,hx,q⟩:=h
  refine qjW c (by rfl) fs 1 [] args H (fun j=>?_) hl na (by simpa using nd) (by simpa using lt) hx q ne
  have e:L2.start ("self" :: fs) (.ref x :: args)=some (.ref x) :: args.map some:=by
   unfold L2.start
   rw [List.length_cons,List.length_cons,hl,Nat.sub_self]
   exact List.append_nil _
  rw [e,Nat.add_comm,List.getElem?_cons_succ,List.getElem?_map]
theorem Z6 (T:Txt K mg A):Ok P w K mg base CX0 1 A.jF ["self","kind","value","place","spelling"] (Yi A.qW ["kind","value","place","spelling"]) :=
 Kc T.qfd qiN T.qy ⟨T.zb,T.zV,T.zO,T.Vn,trivial⟩ (by decide +kernel) (by decide) (fun z=>nomatch z) fun _ _ _ _ _ _=>pss_cons (ps_fld (pv 0) (pv 1) rfl) (pss_cons (ps_fld (pv 0) (pv 2) rfl) (pss_cons (ps_fld (pv 0) (pv 3) rfl) (pss_one (ps_fld (pv 0) (pv 4) rfl))))
theorem qht (T:Txt K mg A):Ok P w K mg base CX0 1 A.jr ["self","global_names","procedures","main"] (Yi A.z7 ["global_names","procedures","main"]) :=
 Kc T.qcL qhi T.wU ⟨T.j5,T.jT,T.Xu,trivial⟩ (by decide +kernel) (by decide) (fun z=>nomatch z) fun _ _ _ _ _ _=>pss_cons (ps_fld (pv 0) (pv 1) rfl) (pss_cons (ps_fld (pv 0) (pv 2) rfl) (pss_one (ps_fld (pv 0) (pv 3) rfl)))
theorem qbF (T:Txt K mg A):Ok P w K mg base CX0 1 A.je ["self","name","is_row","size","number"] (Yi A.zH ["name","is_row","size","number"]) :=
 Kc T.qcm qg1 T.yz ⟨T.yF,T.Qh,T.YJ,T.qax,trivial⟩ (by decide +kernel) (by decide) (fun z=>nomatch z) fun _ _ _ _ _ _=>pss_cons (ps_fld (pv 0) (pv 1) rfl) (pss_cons (ps_fld (pv 0) (pv 2) rfl) (pss_cons (ps_fld (pv 0) (pv 3) rfl) (pss_one (ps_fld (pv 0) (pv 4) rfl))))
theorem qgC (T:Txt K mg A):Ok P w K mg base CX0 1 A.jb ["self","name","parameters","block"] (Yi A.zE ["name","parameters","block"]) :=
 Kc T.qbe qgG T.j9 ⟨T.vN,T.jO,T.JT,trivial⟩ (by decide +kernel) (by decide) (fun z=>nomatch z) fun _ _ _ _ _ _=>pss_cons (ps_fld (pv 0) (pv 1) rfl) (pss_cons (ps_fld (pv 0) (pv 2) rfl) (pss_one (ps_fld (pv 0) (pv 3) rfl)))
theorem qhM (T:Txt K mg A):Ok P w K mg base CX0 1 A.jx ["self","variable","sign","expression"] (Yi A.qK ["variable","sign","expression"]) :=
 Kc T.qdW qhS T.qan ⟨T.JV,T.qd0,T.ZD,trivial⟩ (by decide +kernel) (by decide) (fun z=>nomatch z) fun _ _ _ _ _ _=>pss_cons (ps_fld (pv 0) (pv 1) rfl) (pss_cons (ps_fld (pv 0) (pv 2) rfl) (pss_one (ps_fld (pv 0) (pv 3) rfl)))
theorem qi1 (T:Txt K mg A):Ok P w K mg base CX0 1 A.jL ["self","left","right"] (Yi A.zN ["left","right"]) :=
 Kc T.qfY qjE T.qbs ⟨T.qbX,T.qaF,trivial⟩ (by decide +kernel) (by decide) (fun z=>nomatch z) fun _ _ _ _ _ _=>pss_cons (ps_fld (pv 0) (pv 1) rfl) (pss_one (ps_fld (pv 0) (pv 2) rfl))
theorem qea (T:Txt K mg A):Ok P w K mg base CX0 1 A.jw ["self","kind","opening","before","first","second","closing","behind"] (Yi A.qx ["kind","opening","before","first","second","closing","behind"]) :=
 Kc T.qee qh9 T.wK ⟨T.qd8,T.qbf,T.Yo,T.Kh,T.Y0,T.qba,T.Y4,trivial⟩ (by decide +kernel) (by decide) (fun z=>nomatch z) fun _ _ _ _ _ _=>pss_cons (ps_fld (pv 0) (pv 1) rfl) (pss_cons (ps_fld (pv 0) (pv 2) rfl) (pss_cons (ps_fld (pv 0) (pv 3) rfl) (pss_cons (ps_fld (pv 0) (pv 4) rfl) (pss_cons (ps_fld (pv 0) (pv 5) rfl) (pss_cons (ps_fld (pv 0) (pv 6) rfl) (pss_one (ps_fld (pv 0) (pv 7) rfl)))))))
theorem qjy (T:Txt K mg A):Ok P w K mg base CX0 1 A.jM ["self","kind","procedure","handed"] (Yi A.zr ["kind","procedure","handed"]) :=
 Kc T.qgi qjr T.Zk ⟨T.qgp,T.vO,T.WF,trivial⟩ (by decide +kernel) (by decide) (fun z=>nomatch z) fun _ _ _ _ _ _=>pss_cons (ps_fld (pv 0) (pv 1) rfl) (pss_cons (ps_fld (pv 0) (pv 2) rfl) (pss_one (ps_fld (pv 0) (pv 3) rfl)))
theorem qiO (T:Txt K mg A):Ok P w K mg base CX0 1 A.jH ["self","opening","name","before","block","closing","behind"] (Yi A.qJ ["opening","name","before","block","closing","behind"]) :=
 Kc T.qfi qiR T.wF ⟨T.qbE,T.Qg,T.Xh,T.Ut,T.qbx,T.GK,trivial⟩ (by decide +kernel) (by decide) (fun z=>nomatch z) fun _ _ _ _ _ _=>pss_cons (ps_fld (pv 0) (pv 1) rfl) (pss_cons (ps_fld (pv 0) (pv 2) rfl) (pss_cons (ps_fld (pv 0) (pv 3) rfl) (pss_cons (ps_fld (pv 0) (pv 4) rfl) (pss_cons (ps_fld (pv 0) (pv 5) rfl) (pss_one (ps_fld (pv 0) (pv 6) rfl))))))
theorem qhq (T:Txt K mg A):Ok P w K mg base CX0 1 A.jk ["self","text"] (qos A.qC):=by
 obtain ⟨fd,F,b⟩:=T.qcw
 refine ⟨fd,F.ok qhA (fun vs H Q E h=>?_) (fun cdv AA outer s H vs Q E hr h=>?_),b⟩
 ·obtain ⟨x,dx,a,rfl,_⟩:=h
  rfl
 ·obtain ⟨x,dx,a,rfl,hx,q⟩:=h
  refine ⟨_,pss_cons (ps_fld (pv 0) (pv 1) rfl) (pss_one (ps_fld (pv 0) pe_int rfl)),?_⟩
  refine ⟨_,rfl,_,rfl,x,_,dx,_,rfl,hx,T.qD,T.wG,(by show 0 < 1000; decide),?_⟩
  refine ⟨_,rfl,x,_,dx,_,rfl,upd_same,T.qD,T.qH,(by show 1 < 1000; decide),?_⟩
  rw [upd_upd]
  exact q
theorem JH (T:Txt K mg A):Ok P w K mg base CX0 1 A.jo ["self","number"] (qoB K):=by
 obtain ⟨fd,F,b⟩:=T.qcP
 refine ⟨fd,F.ok qhn (fun vs H Q E h=>?_) (fun cdv AA outer s H vs Q E hr h=>?_),b⟩
 ·obtain ⟨e,C,tp,n,rfl,_⟩:=h
  rfl
 ·obtain ⟨e,C,tp,n,rfl,he,hc,q⟩:=h
  refine ⟨_,pss_one (qnO (pv 0) (pv 1) rfl),?_⟩
  exact ⟨_,rfl,_,rfl,e,C,tp,rfl,he,hc,q⟩
theorem qfQ (T:Txt K mg A):Ok P w K mg base CX0 2 A.zX ["self"] (qhm A.zy (-2)):=by
 obtain ⟨fd,F,b⟩:=T.qap
 obtain ⟨fr,G,br⟩:=JH (P:=P) (w:=w) (base:=base) T
 refine ⟨fd,F.ok qf6 (fun vs H Q E h=>?_) (fun cdv AA outer s H vs Q E hr h=>?_),b⟩
 ·obtain ⟨e,tp,rfl,_⟩:=h
  rfl
 ·obtain ⟨e,tp,rfl,he,q⟩:=h
  refine ⟨_,pss_one (ps_expr (qgv rfl T.WD T.KH G hr br pass0 (pa_cons (pv 0) (pa_cons (pe_un un_neg pe_int) pa_nil)))),?_⟩
  exact ⟨_,rfl,2,rfl,e,_,tp,-2,rfl,he,T.qff,q⟩
theorem QZ (T:Txt K mg A):Ok P w K mg base CX0 2 A.z9 ["self"] (qhm A.zB (-5)):=by
 obtain ⟨fd,F,b⟩:=T.qbc
 obtain ⟨fr,G,br⟩:=JH (P:=P) (w:=w) (base:=base) T
 refine ⟨fd,F.ok qgI (fun vs H Q E h=>?_) (fun cdv AA outer s H vs Q E hr h=>?_),b⟩
 ·obtain ⟨e,tp,rfl,_⟩:=h
  rfl
 ·obtain ⟨e,tp,rfl,he,q⟩:=h
  refine ⟨_,pss_one (ps_expr (qgv rfl T.WD T.KH G hr br pass0 (pa_cons (pv 0) (pa_cons (pe_un un_neg pe_int) pa_nil)))),?_⟩
  exact ⟨_,rfl,5,rfl,e,_,tp,-5,rfl,he,T.qfv,q⟩
theorem qgH (T:Txt K mg A):Ok P w K mg base CX0 2 A.z8 ["self","place"] (qi0 A.zR (-100)):=by
 obtain ⟨fd,F,b⟩:=T.qa9
 obtain ⟨fr,G,br⟩:=JH (P:=P) (w:=w) (base:=base) T
 refine ⟨fd,F.ok qgD (fun vs H Q E h=>?_) (fun cdv AA outer s H vs Q E hr h=>?_),b⟩
 ·obtain ⟨e,tp,k,rfl,_⟩:=h
  rfl
 ·obtain ⟨e,tp,k,rfl,he,q⟩:=h
  refine ⟨_,pss_one (ps_expr (qgv rfl T.WD T.KH G hr br pass0 (pa_cons (pv 0) (pa_cons (pe_op op_sub (pe_un un_neg pe_int) (pv 1)) pa_nil)))),?_⟩
  exact ⟨_,rfl,100,rfl,_,rfl,-100,k,rfl,rfl,e,_,tp,-100-k,rfl,he,T.qf3,q⟩
theorem qfW (T:Txt K mg A):Ok P w K mg base CX0 2 A.zZ ["self","place"] (qi0 A.zu (-1000000)):=by
 obtain ⟨fd,F,b⟩:=T.qaw
 obtain ⟨fr,G,br⟩:=JH (P:=P) (w:=w) (base:=base) T
 refine ⟨fd,F.ok qfx (fun vs H Q E h=>?_) (fun cdv AA outer s H vs Q E hr h=>?_),b⟩
 ·obtain ⟨e,tp,k,rfl,_⟩:=h
  rfl
 ·obtain ⟨e,tp,k,rfl,he,q⟩:=h
  refine ⟨_,pss_one (ps_expr (qgv rfl T.WD T.KH G hr br pass0 (pa_cons (pv 0) (pa_cons (pe_op op_sub (pe_un un_neg pe_int) (pv 1)) pa_nil)))),?_⟩
  exact ⟨_,rfl,1000000,rfl,_,rfl,-1000000,k,rfl,rfl,e,_,tp,-1000000-k,rfl,he,T.qfk,q⟩
end
end Pg
namespace Pg
open PySem PySem.Spec PyProof.Rows L2 Xc
open Sc25 (Bytes)
def Kp (L:List Addr) (H H':Hp):Prop:=∀ b o,H b=some o->b ∉ L->H' b=some o
theorem Kp.refl (L:List Addr) (H:Hp):Kp L H H:=fun _ _ h _=>h
theorem Kp.trans {L:List Addr} {H H1 H2:Hp} (a:Kp L H H1) (b:Kp L H1 H2):Kp L H H2:=fun c o h n=>b c o (a c o h n) n
theorem Kp.new {L:List Addr} {H:Hp} {p:Addr} {o:HO} (h:H p=none):Kp L H (upd H p o):=fun b u e _=>by rw [upd_ne (ne_of_none e h)]; exact e
theorem Kp.at {L:List Addr} {H:Hp} {p:Addr} {o:HO} (h:p ∈ L):Kp L H (upd H p o):=fun b u e n=>by
 have nb:b≠p:=fun z=>n (by rw [z]; exact h)
 rw [upd_ne nb]
 exact e
theorem Kp.mono {L L':List Addr} {H H':Hp} (a:Kp L H H') (h:∀ x ∈ L,x ∈ L'):Kp L' H H':=fun b o e n=>a b o e fun z=>n (h b z)
theorem Kp.one {x:Addr} {H H':Hp} (a:Kp [x] H H') {b:Addr} {o:HO} (h:H b=some o) (n:b≠x):H' b=some o:=a b o h (by simpa using n)
theorem Kp.free {L:List Addr} {H H':Hp} (a:Kp L H H') {l:Addr} (h:H' l=none) (n:l ∉ L):H l=none:=by
 cases q:H l with
 | none=>rfl
 | some o=>rw [a l o q n] at h; cases h
theorem relI (i:Int) (t:Tok):RelV (.int i) (.int i t):=⟨t,rfl⟩
theorem relS (x:Str) (t:Tok):RelV (.str x) (.str x t):=⟨t,rfl⟩
def Qk (K:PySem.W.Frag) (H:Hp) (a:Addr) (b:Bytes):Prop:=SqL K H a (b.map fun (c:Nat)=>V.int (c:Int))
theorem Qk.kp {K:PySem.W.Frag} {H H':Hp} {a:Addr} {b:Bytes} {L:List Addr} (h:Qk K H a b) (k:Kp L H H') (hL:∀ x ∈ L,∃ C dx fs,H x=some (.ins C dx fs)):Qk K H' a b:=by
 rcases h with (h | ⟨o,h⟩) | h
 ·refine .inl (.inl (k _ _ h fun z=>?_))
  obtain ⟨C,dx,fs,q⟩:=hL a z
  rw [h] at q; cases q
 ·refine .inl (.inr ⟨o,k _ _ h fun z=>?_⟩)
  obtain ⟨C,dx,fs,q⟩:=hL a z
  rw [h] at q; cases q
 ·exact .inr h
def ScAt (A:Adr) (H:Hp) (sc a:Addr) (k:Nat):Prop:=∃ dx,H sc=some (.ins A.qC dx [("text",.ref a),("position",.int k)])
structure Sn (K:PySem.W.Frag) (A:Adr) (H:Hp) (sc a:Addr) (b:Bytes) (k:Nat):Prop where
 obj:ScAt A H sc a k
 txt:Qk K H a b
 le:k<=b.length
 low:∀ c ∈ b,c<=255
def byteAt (b:Bytes) (k:Nat):Int:=match b[k]? with
 | some c=>(c:Int)
 | none=>256
def qjN (g:Nat->Bool):Sp:=fun vs H Q _=>∃ c:Nat,vs=[.int c]/\Q (.bl (g c)) H
def qmN:Sp:=fun vs H Q _=>∃ c:Nat,vs=[.int c]/\Sc25.isWord c=true/\Q (.str (Ma.sB [c])) H
def qmZ (K:PySem.W.Frag) (A:Adr):Sp:=fun vs H Q _=>∃ sc a b j k,vs=[.ref sc,.int (k:Nat)]/\Sn K A H sc a b j/\Q (.int (byteAt b k)) H
def spTo (K:PySem.W.Frag) (A:Adr) (g:Bytes->Nat->Nat):Sp:=fun vs H Q _=>∃ sc a b k,vs=[.ref sc]/\Sn K A H sc a b k/\∀ H',Kp [sc] H H'->Sn K A H' sc a b (g b k)->Q .non H'
theorem qfN {lo hi c:Int} {i:Nat} {σ:L2.St} {H:Hp} {Q:VK} (e:σ[i]?=some (some (V.int c))) (q:Q (.bl (decide (lo<=c) && decide (c<=hi))) H) :
  tChain (rI0 fun i j=>.bl (decide (i<=j))) (rI0 fun i j=>.bl (decide (i<=j))) (tC (.int lo)) (tVar i) (tC (.int hi)) σ H Q:=by
 refine ⟨_,e,lo,c,rfl,rfl,_,rfl,?_⟩
 by_cases h:lo<=c
 ·rw [if_pos (decide_eq_true h)]
  refine ⟨c,hi,rfl,rfl,?_⟩
  rw [decide_eq_true h,Bool.true_and] at q
  exact q
 ·rw [if_neg (by simpa using h)]
  rw [decide_eq_false h,Bool.false_and] at q
  exact q
theorem qkZ (c:Nat):Sc25.isLetter c=((decide ((97:Int)<=(c:Int)) && decide ((c:Int)<=122)) || (decide ((65:Int)<=(c:Int)) && decide ((c:Int)<=90))):=by
 unfold Sc25.isLetter
 rw [Bool.or_comm]
 congr 1 <;> congr 1 <;> (apply decide_eq_decide.mpr; omega)
theorem qlP (c:Nat):Sc25.isDigit c=(decide ((48:Int)<=(c:Int)) && decide ((c:Int)<=57)):=by
 unfold Sc25.isDigit
 congr 1 <;> (apply decide_eq_decide.mpr; omega)
theorem fl0 {K:PySem.W.Frag} {i:Nat} {f:Str} {σ:L2.St} {H:Hp} {Q:VK} {a C dx:Addr} {fs:List (Str×V)} {v:V} (e:σ[i]?=some (some (.ref a))) (h:H a=some (.ins C dx fs)) (c:Cls K C) (n:NoAttr K C f) (l:fs.lookup f=some v) (q:Q v H):tFld K (tVar i) f σ H Q:=⟨_,e,a,C,dx,fs,v,rfl,h,c,n,l,q⟩
theorem fl1 {K:PySem.W.Frag} {i:Nat} {f g:Str} {σ:L2.St} {H:Hp} {Q:VK} {a C dx a' C' dx':Addr} {fs fs':List (Str×V)} {v:V} (e:σ[i]?=some (some (.ref a))) (h:H a=some (.ins C dx fs)) (c:Cls K C) (n:NoAttr K C f) (l:fs.lookup f=some (.ref a')) (h':H a'=some (.ins C' dx' fs')) (c':Cls K C') (n':NoAttr K C' g) (l':fs'.lookup g=some v) (q:Q v H):tFld K (tFld K (tVar i) f) g σ H Q:=⟨_,e,a,C,dx,fs,_,rfl,h,c,n,l,a',C',dx',fs',v,rfl,h',c',n',l',q⟩
theorem me0 {C:Addr} {m:Str} {sp:Sp} {dvs:List V} {E:XK} {i:Nat} {t:TA} {σ:L2.St} {H:Hp} {Q:VK} {a dx:Addr} {fs:List (Str×V)} (e:σ[i]?=some (some (.ref a))) (h:H a=some (.ins C dx fs)) (l:fs.lookup m=none) (q:t σ H fun vs H2=>sp (.ref a :: (vs++dvs)) H2 Q E):tMeth C m sp dvs E (tVar i) t σ H Q:=⟨_,e,a,dx,fs,rfl,h,l,q⟩
section
variable {P:Program} {w:World} {K:PySem.W.Frag} {mg:Str->Option Value} {base:Heap} {A:Adr}
theorem qfE (T:Txt K mg A):Ok P w K mg base CX0 1 A.jQ ["byte"] (qjN Sc25.isLetter):=by
 obtain ⟨fd,F,b⟩:=T.KR
 refine ⟨fd,F.ok qjg (fun vs H Q E h=>?_) (fun cdv AA outer s H vs Q E hr h=>?_),b⟩
 ·obtain ⟨c,rfl,_⟩:=h
  rfl
 ·obtain ⟨c,rfl,q⟩:=h
  rw [qkZ] at q
  refine ⟨_,pss_one (ps_ret (pe_or (pe_chain op_le op_le pe_int (pv 0) pe_int) (pe_one (pe_chain op_le op_le pe_int (pv 0) pe_int)))),?_⟩
  refine qfN rfl ⟨_,rfl,?_⟩
  cases e:(decide ((97:Int)<=(c:Int)) && decide ((c:Int)<=122)) with
  | true =>
   rw [e,Bool.true_or] at q
   exact iteT q
  | false =>
   rw [e,Bool.false_or] at q
   exact iteF (qfN rfl q)
theorem qc6 (T:Txt K mg A):Ok P w K mg base CX0 1 A.jY ["byte"] (qjN Sc25.isDigit):=by
 obtain ⟨fd,F,b⟩:=T.Yc
 refine ⟨fd,F.ok qjR (fun vs H Q E h=>?_) (fun cdv AA outer s H vs Q E hr h=>?_),b⟩
 ·obtain ⟨c,rfl,_⟩:=h
  rfl
 ·obtain ⟨c,rfl,q⟩:=h
  rw [qlP] at q
  refine ⟨_,pss_one (ps_ret (pe_chain op_le op_le pe_int (pv 0) pe_int)),?_⟩
  exact qfN rfl q
theorem qgF (T:Txt K mg A):Ok P w K mg base CX0 2 A.jj ["byte"] (qjN Sc25.isWord):=by
 obtain ⟨fd,F,b⟩:=T.Vs
 obtain ⟨fl,Gl,bl⟩:=qfE (P:=P) (w:=w) (base:=base) T
 obtain ⟨fg,Gd,bd⟩:=qc6 (P:=P) (w:=w) (base:=base) T
 obtain ⟨fdl,Fl,_⟩:=T.KR
 obtain ⟨fdd,Fd,_⟩:=T.Yc
 obtain ⟨tk,hU⟩:=T.qb5
 refine ⟨fd,F.ok qgE (fun vs H Q E h=>?_) (fun cdv AA outer s H vs Q E hr h=>?_),b⟩
 ·obtain ⟨c,rfl,_⟩:=h
  rfl
 ·obtain ⟨c,rfl,q⟩:=h
  refine ⟨_,pss_one (ps_ret (pe_or (pe_call Gl hr rfl T.qbG Fl.kp bl .nil pass0 (pa_cons (pv 0) pa_nil)) (pe_or (pe_call Gd hr rfl T.qal Fd.kp bd .nil pass0 (pa_cons (pv 0) pa_nil))
   (pe_one (pe_cmpR op_eq (pv 0) (pe_glob rfl hU (relI _ _)) (nomark _)))))),?_⟩
  refine ⟨_,rfl,c,rfl,_,rfl,?_⟩
  unfold Sc25.isWord at q
  cases e:Sc25.isLetter c with
  | true =>
   rw [e,Bool.true_or] at q
   exact iteT q
  | false =>
   rw [e,Bool.false_or] at q
   refine iteF ⟨_,rfl,c,rfl,_,rfl,?_⟩
   cases e2:Sc25.isDigit c with
   | true =>
    rw [e2,Bool.true_or] at q
    exact iteT q
   | false =>
    rw [e2,Bool.false_or] at q
    refine iteF ⟨_,rfl,rfl,?_⟩
    have e3:decide (V.int (c:Int)=V.int 95)=(c == 95):=by
     by_cases z:c=95
     ·subst z; rfl
     ·rw [decide_eq_false (by intro y; injection y with y; omega)]
      simp [z]
    rw [e3]
    exact q
theorem ql8:∀ n < 26,("abcdefghijklmnopqrstuvwxyz" : Str).cps.toList[n]?=some (97+n):=by decide +kernel
theorem qmI:∀ n < 26,("ABCDEFGHIJKLMNOPQRSTUVWXYZ" : Str).cps.toList[n]?=some (65+n):=by decide +kernel
theorem qmE:∀ n < 10,("0123456789" : Str).cps.toList[n]?=some (48+n):=by decide +kernel
theorem qjx (T:Txt K mg A):Ok P w K mg base CX0 1 A.jP ["byte"] qmN:=by
 obtain ⟨fd,F,b⟩:=T.qco
 obtain ⟨t1,h1⟩:=T.qcQ
 obtain ⟨t2,h2⟩:=T.qcH
 obtain ⟨t3,h3⟩:=T.qjF
 obtain ⟨t4,h4⟩:=T.qb5
 refine ⟨fd,F.ok qi4 (fun vs H Q E h=>?_) (fun cdv AA outer s H vs Q E hr h=>?_),b⟩
 ·obtain ⟨c,rfl,_⟩:=h
  rfl
 ·obtain ⟨c,rfl,hw,q⟩:=h
  have hw:(65<=c/\c<=90)\/(97<=c/\c<=122)\/(48<=c/\c<=57)\/c=95:=by
   unfold Sc25.isWord Sc25.isLetter Sc25.isDigit at hw
   simp only [Bool.or_eq_true,Bool.and_eq_true,decide_eq_true_eq,beq_iff_eq] at hw
   omega
  refine ⟨_,pss_cons (ps_if (pt_cmpR op_ge (pv 0) pe_int (nomark _)) (pss_one (ps_ret (pe_ix ix_str (pe_glob rfl h1 (relS _ _)) (pe_op op_sub (pv 0) pe_int) (fun _ _=>rfl)))) pss_nil)
   (pss_cons (ps_if (pt_cmpR op_eq (pv 0) (pe_glob rfl h4 (relI _ _)) (nomark _)) (pss_one (ps_ret pe_str)) pss_nil)
   (pss_cons (ps_if (pt_cmpR op_ge (pv 0) pe_int (nomark _)) (pss_one (ps_ret (pe_ix ix_str (pe_glob rfl h2 (relS _ _)) (pe_op op_sub (pv 0) pe_int) (fun _ _=>rfl)))) pss_nil)
   (pss_one (ps_ret (pe_ix ix_str (pe_glob rfl h3 (relS _ _)) (pe_op op_sub (pv 0) pe_int) (fun _ _=>rfl)))))),?_⟩
  refine ⟨_,rfl,c,97,rfl,rfl,_,rfl,ite2 (fun z=>?_) fun z=>?_⟩
  ·have z:97<=c:=by have:=of_decide_eq_true z; omega
   obtain ⟨n,rfl⟩:∃ n,c=97+n:=⟨c-97,by omega⟩
   refine ⟨_,rfl,_,_,rfl,rfl,_,_,97+n,rfl,rfl,by decide +kernel,?_,q⟩
   rw [show ((97+n:Nat):Int)-97=(n:Int) by omega]
   exact atI_nat (ql8 n (by omega))
  ·have z:¬ 97<=c:=by intro y; exact z (decide_eq_true (by omega))
   refine ⟨_,rfl,rfl,_,rfl,ite2 (fun z2=>?_) fun z2=>?_⟩
   ·have z2:c=95:=by have:=of_decide_eq_true z2; injection this with this; omega
    subst z2
    exact q
   ·have z2:c≠95:=by
     intro y; subst y; exact z2 (by decide)
    refine ⟨_,rfl,c,65,rfl,rfl,_,rfl,ite2 (fun z3=>?_) fun z3=>?_⟩
    ·have z3:65<=c:=by have:=of_decide_eq_true z3; omega
     obtain ⟨n,rfl⟩:∃ n,c=65+n:=⟨c-65,by omega⟩
     refine ⟨_,rfl,_,_,rfl,rfl,_,_,65+n,rfl,rfl,by decide +kernel,?_,q⟩
     rw [show ((65+n:Nat):Int)-65=(n:Int) by omega]
     exact atI_nat (qmI n (by omega))
    ·have z3:¬ 65<=c:=by intro y; exact z3 (decide_eq_true (by omega))
     obtain ⟨n,rfl⟩:∃ n,c=48+n:=⟨c-48,by omega⟩
     refine ⟨_,rfl,_,_,rfl,rfl,_,_,48+n,rfl,rfl,by decide +kernel,?_,q⟩
     rw [show ((48+n:Nat):Int)-48=(n:Int) by omega]
     exact atI_nat (qmE n (by omega))
theorem WK (T:Txt K mg A):Ok P w K mg base CX0 1 A.zY ["self","place"] (qmZ K A):=by
 obtain ⟨fd,F,b⟩:=T.qas
 obtain ⟨tk,hN⟩:=T.qcB
 refine ⟨fd,F.ok qgh (fun vs H Q E h=>?_) (fun cdv AA outer s H vs Q E hr h=>?_),b⟩
 ·obtain ⟨sc,a,b,j,k,rfl,_⟩:=h
  rfl
 ·obtain ⟨sc,a,b,j,k,rfl,S,q⟩:=h
  obtain ⟨dx,hsc⟩:=S.obj
  refine ⟨_,pss_one (ps_ret (pe_ifExp (pt_cmpR op_lt (pv 1) (pe_callB call_len_seq (by rfl) T.Ke PySem.boot_len (pa_cons (pe_fld (pv 0) rfl) pa_nil)) (nomark _)) (pe_ix ix_list (pe_fld (pv 0) rfl) (pv 1) (fun _ _=>rfl)) (pe_glob rfl hN (relI _ _)))),?_⟩
  refine ⟨_,rfl,_,rfl,sc,_,dx,_,_,rfl,hsc,T.qD,T.wG,rfl,a,_,rfl,.inl S.txt,_,_,rfl,rfl,_,rfl,ite2 (fun z=>?_) fun z=>?_⟩
  ·have z:=of_decide_eq_true z
   rw [List.length_map] at z
   have lt:k < b.length:=by omega
   have e:b[k]?=some b[k]:=List.getElem?_eq_getElem lt
   refine ⟨_,rfl,sc,_,dx,_,_,rfl,hsc,T.qD,T.wG,rfl,_,rfl,a,_,_,V.int (b[k]:Nat),rfl,rfl,S.txt,atI_nat (by rw [List.getElem?_map,e]; rfl),?_⟩
   unfold byteAt at q
   rw [e] at q
   exact q
  ·have z:¬ ((k:Int) < ((b.map fun (c:Nat)=>V.int (c:Int)).length:Int)):=fun y=>z (decide_eq_true y)
   rw [List.length_map] at z
   have e:b[k]?=none:=List.getElem?_eq_none_iff.mpr (by omega)
   unfold byteAt at q
   rw [e] at q
   exact q
end
end Pg
namespace L2
open PySem PySem.Spec PyProof.Rows
def TabK (P:Program) (w:World) (K:PySem.W.Frag) (a:Addr) (kvs:List (Key×V)):Prop:=(a == sysModules)=false/\∃ vs,KV kvs vs/\∀ h:Heap,K.In h->h.DictOf (mixKind P w) a vs
def qna (kvs:List (Key×V)) (ty:TE):TE:=fun σ H Q=>ty σ H fun y H2=>∃ k v,y=kV k/\valV kvs k=some v/\Q v H2
def tKIn (kvs:List (Key×V)) (ty:TE):TE:=fun σ H Q=>ty σ H fun y H2=>∃ k,y=kV k/\Q (.bl (valV kvs k).isSome) H2
def ql0 (kvs:List (Key×V)) (ty tx:TE):TE:=fun σ H Q=>ty σ H fun y H2=>tx σ H2 fun z H3=>∃ k,y=kV k/\Q ((valV kvs k).getD z) H3
section
variable {X:Cx} {o i e f:Expr} {pos apos cpos:Pos} {ty tx:TE} {a:Addr} {kvs:List (Key×V)}
theorem qhX (T:TabK X.prog X.w X.K a kvs) (ho:PE X o (tC (.ref a))) (hi:PE X i ty) (hs:NoSl i):PE X (.Subscript o i pos) (qna kvs ty):=by
 intro pins s σ H Q I h
 obtain ⟨hd,vs,rel,dd⟩:=T
 refine subD_of PySem.F.slot_dict_getitem.lookup hs (thn (ho pins s σ H (fun x H1=>x=.ref a/\qna kvs ty σ H1 Q) I ⟨rfl,h⟩) fun u s1 z=>?_)
 obtain ⟨x,H1,I1,rx,rfl,q1⟩:=z
 obtain rfl:u=Value.ref a:=rx
 refine thn (hi pins s1 σ H1 _ I1 q1) fun iv s2 z=>?_
 obtain ⟨y,H2,I2,ry,k,v,rfl,l,q2⟩:=z
 obtain ⟨w',hw,rw'⟩:=RelO.some_of (v:=v) (o:=valueAt vs k) (by rw [<- l]; exact rel.val k)
 exact ⟨(dd _ I2.kIn).typeIs,wpAny_getItem_of (kV_is ry) (dd _ I2.kIn).mapOf hw ⟨v,H2,I2.tok _,rw',q2⟩⟩
theorem qly (T:TabK X.prog X.w X.K a kvs) (hi:PE X i ty) (ho:PE X o (tC (.ref a))):PC X .In i o (tKIn kvs ty):=by
 intro pins s σ H Q I h
 obtain ⟨hd,vs,rel,dd⟩:=T
 refine thn (hi pins s σ H _ I h) fun iv s1 z=>?_
 obtain ⟨y,H1,I1,ry,k,rfl,q1⟩:=z
 refine thn (ho pins s1 σ H1 (fun x H2=>x=.ref a/\Q (.bl (valV kvs k).isSome) H2) I1 ⟨rfl,q1⟩) fun u s2 z=>?_
 obtain ⟨x,H2,I2,rx,rfl,q2⟩:=z
 obtain rfl:u=Value.ref a:=rx
 refine wpAny_in_of (kV_is ry) hd (dd _ I2.kIn).mapOf ?_
 rw [<- (rel.val k).isSome_eq]
 exact ⟨.bl _,H2,I2.tok _,rfl,q2⟩
theorem qmx (T:TabK X.prog X.w X.K a kvs) (ho:PE X o (tC (.ref a))) (he:PE X e ty) (hf:PE X f tx) (m:M2 X o "get" apos e f cpos):PE X (.Call (.Attribute o "get" apos) [e,f] [] cpos) (ql0 kvs ty tx):=by
 intro pins s σ H Q I h
 obtain ⟨hd,vs,rel,dd⟩:=T
 refine wpAny_Call_method m.base m.few m.line PySem.F.plainAttrs_dict PySem.F.slot_dict_get PySem.F.type_dict_get (thn (ho pins s σ H (fun x H1=>x=.ref a/\ql0 kvs ty tx σ H1 Q) I ⟨rfl,h⟩) fun u s1 z=>?_)
 obtain ⟨x,H1,I1,rx,rfl,q1⟩:=z
 obtain rfl:u=Value.ref a:=rx
 have D1:=dd _ I1.kIn
 refine ⟨D1.typeIs,fun b q=>?_,?_⟩
 ·cases q
  obtain ⟨ob,_,_,h1,h2,_⟩:=D1
  exact ⟨ob,h1,h2.2.1⟩
 rw [m.trees]
 refine Calls.callWith_builtin rfl (Calls.evalArgs_plain (Calls.spliced_cons (thn (he pins s1 σ H1 _ I1 q1) fun iv s2 z=>?_)))
 obtain ⟨y,H2,I2,ry,q2⟩:=z
 refine Calls.spliced_cons (thn (hf pins s2 σ H2 _ I2 q2) fun fv s3 z=>Calls.spliced_nil ?_)
 obtain ⟨zv,H3,I3,rz,k,rfl,q3⟩:=z
 have D3:=dd _ I3.kIn
 refine call_meetsIn PySem.F.slot_dict_get D3.typeIs PySem.F.entry_dict_get (PySem.F.args_dict_get_3 _ _ _) (meets_dict_get_default (mixKind X.prog X.w) a (kV_is ry) hd fv) ⟨_,D3.mapOf,?_⟩
 exact ⟨_,H3,I3.tok _,(rel.val k).getD rz,q3⟩
end
end L2
namespace Pg
open PySem PySem.Spec PyProof.Rows L2 Xc
open Sc25 (Bytes)
def qhf:List (Key×V):=[(.inl 33,.str "!"),(.inl 37,.str "rest"),(.inl 38,.str "&"),(.inl 40,.str "("),(.inl 41,.str ")"),(.inl 42,.str "*"),(.inl 43,.str "+"),(.inl 44,.str ","),(.inl 45,.str "-"),(.inl 47,.str "/"),
 (.inl 59,.str ";"),(.inl 60,.str "<"),(.inl 61,.str "="),(.inl 91,.str "["),(.inl 93,.str "]"),(.inl 94,.str "^"),(.inl 123,.str "{"),(.inl 124,.str "|"),(.inl 125,.str "}")]
def qhj:List (Key×V):=[(.inl 33,.str "!="),(.inl 43,.str "+="),(.inl 45,.str "-="),(.inl 60,.str "<="),(.inl 94,.str "^=")]
def strT:List (Key×V):=Ma.strgs.map fun p=>(.inr p.1,.int p.2)
structure Tbl (P:Program) (w:World) (K:PySem.W.Frag) (A:Adr):Prop where
 blanks:∀ H,SqT K H A.wQ [.int 9,.int 10,.int 13,.int 32]
 kws:∀ H,SqT K H A.jX (Sc25.kept.map fun w=>V.str (Ma.sB w))
 changes:∀ H,SqT K H A.wy [.str "+=",.str "-=",.str "^="]
 signs:TabK P w K A.Q6 qhf
 signse:TabK P w K A.jd qhj
 strn:TabK P w K A.wg strT
theorem qgd {b:Bytes} {k c:Nat} (h:b[k]?=some c):byteAt b k=(c:Int):=by unfold byteAt; rw [h]
theorem qf8 {b:Bytes} {k:Nat} (h:b[k]?=none):byteAt b k=256:=by unfold byteAt; rw [h]
theorem Sn.lt {K:PySem.W.Frag} {A:Adr} {H:Hp} {sc a:Addr} {b:Bytes} {k c:Nat} (S:Sn K A H sc a b k) (h:b[k]?=some c):c<=255:=S.low c (List.mem_of_getElem? h)
theorem Sn.kp {K:PySem.W.Frag} {A:Adr} {H H':Hp} {sc a:Addr} {b:Bytes} {k j:Nat} (S:Sn K A H sc a b k) (hk:Kp [sc] H H') (hj:j<=b.length) (o:ScAt A H' sc a j):Sn K A H' sc a b j :=
 ⟨o,S.txt.kp hk fun x hx=>by
  obtain ⟨dx,q⟩:=S.obj
  have:x=sc:=by simpa using hx
  subst this
  exact ⟨_,_,_,q⟩,hj,S.low⟩
theorem Sn.new {K:PySem.W.Frag} {A:Adr} {H:Hp} {sc a p:Addr} {b:Bytes} {k:Nat} {o:HO} (S:Sn K A H sc a b k) (hp:H p=none):Sn K A (upd H p o) sc a b k:=by
 obtain ⟨dx,q⟩:=id S.obj
 exact S.kp (Kp.new hp) S.le ⟨dx,by rw [upd_ne (ne_of_none q hp)]; exact q⟩
section
variable {P:Program} {w:World} {K:PySem.W.Frag} {mg:Str->Option Value} {base:Heap} {A:Adr}
theorem inV2 (x:Int):inV (.int x) [.int 10,.int 256]=(decide (x=10) || decide (x=256)):=by
 show ((10 == x) || ((256 == x) || false))=_
 rw [Bool.or_false]
 congr 1
 ·rw [Bool.beq_comm]; exact Bool.beq_eq_decide_eq _ _
 ·rw [Bool.beq_comm]; exact Bool.beq_eq_decide_eq _ _
theorem qhZ (T:Txt K mg A):Ok P w K mg base CX0 2 A.zp ["self"] (spTo K A (Ma.far fun x=>x != 10)):=by
 obtain ⟨fd,F,bi⟩:=T.V3
 obtain ⟨fb,G,bb⟩:=WK (P:=P) (w:=w) (base:=base) T
 obtain ⟨t1,h1⟩:=T.qha
 obtain ⟨t2,h2⟩:=T.qcB
 refine ⟨fd,F.ok qdE (fun vs H Q E h=>?_) (fun cdv AA outer s H vs Q E hr h=>?_),bi⟩
 ·obtain ⟨sc,a,b,k,rfl,_⟩:=h
  rfl
 ·obtain ⟨sc,a,b,k,rfl,S,q⟩:=h
  refine ⟨_,pss_one (ps_while PassesOwn.never (pt_cmpR op_notIn_seq (pe_meth (pv 0) T.qD T.jJ G hr bb .nil pass0 (pa_cons (pe_fld (pv 0) rfl) pa_nil))
   (pe_tup (pa_cons (pe_glob rfl h1 (relI _ _)) (pa_cons (pe_glob rfl h2 (relI _ _)) pa_nil))) (by with_unfolding_all rfl)) (pss_one (ps_fldaug (pv 0) pe_int in_add))),?_⟩
  refine ⟨fun m σ H'=>∃ j,σ=[some (.ref sc)]/\Kp [sc] H H'/\Sn K A H' sc a b j/\Ma.far (fun x=>x != 10) b j=Ma.far (fun x=>x != 10) b k/\m=b.length-j,⟨_,k,rfl,Kp.refl _ _,S,rfl,rfl⟩,?_⟩
  rintro m σ H1 ⟨j,rfl,k1,S1,e1,rfl⟩
  obtain ⟨dx,hsc⟩:=id S1.obj
  refine me0 rfl hsc rfl (fl0 rfl hsc T.qD T.qH rfl ⟨sc,a,b,j,j,rfl,S1,(by show 2<=sizeLine; decide),fun p hp=>?_⟩)
  refine ⟨p,_,rfl,.inr (SqT.of upd_same),rfl,rfl,_,rfl,?_⟩
  have S2:Sn K A (upd H1 p (.tup [.int 10,.int 256])) sc a b j:=S1.new hp
  have k2:Kp [sc] H (upd H1 p (.tup [.int 10,.int 256])):=k1.trans (Kp.new hp)
  show if (!inV (.int (byteAt b j)) [.int 10,.int 256])=true then _ else _
  rw [inV2]
  cases hb:b[j]? with
  | none =>
   rw [qf8 hb]
   refine iteF ?_
   refine q _ k2 ?_
   rw [<- e1,Ma.qid hb]
   exact S2
  | some c =>
   rw [qgd hb]
   have lc:=S1.lt hb
   have lj:=Ma.Yh hb
   by_cases hc:c=10
   ·subst hc
    refine iteF ?_
    refine q _ k2 ?_
    rw [<- e1,Ma.qgW hb (by decide)]
    exact S2
   ·have e:(!(decide ((c:Int)=10) || decide ((c:Int)=256)))=true:=by
     rw [decide_eq_false (by omega),decide_eq_false (by omega)]
     rfl
    rw [e]
    refine iteT ⟨fun σ' H'=>∃ m',m' < b.length-j/\∃ j,σ'=[some (.ref sc)]/\Kp [sc] H H'/\Sn K A H' sc a b j/\Ma.far (fun x=>x != 10) b j=Ma.far (fun x=>x != 10) b k/\m'=b.length-j,fun _ _ z=>z,?_⟩
    obtain ⟨dx2,hsc2⟩:=id S2.obj
    refine ⟨_,rfl,sc,_,dx2,_,_,rfl,hsc2,T.qD,T.qH,rfl,_,_,rfl,rfl,dx2,_,hsc2,(by show 2 < 1000; decide),?_⟩
    have k3:Kp [sc] H (upd (upd H1 p (.tup [.int 10,.int 256])) sc (.ins A.qC dx2 [("text",.ref a),("position",.int ((j:Int)+1))])):=k2.trans (Kp.at (by simp))
    refine ⟨b.length-(j+1),by omega,j+1,rfl,k3,S2.kp (Kp.at (by simp)) (by omega) ⟨dx2,upd_same⟩,?_,rfl⟩
    rw [<- e1]
    exact (Ma.Yu hb (by simpa using hc)).symm
def qmw (K:PySem.W.Frag) (A:Adr):Sp:=fun vs H Q _=>∃ sc a b k,vs=[.ref sc]/\Sn K A H sc a b k/\∀ H' j,Kp [sc] H H'->Sn K A H' sc a b j->Ma.strm b j=Ma.strm b k->(∀ c,b[j]?=some c->Sc25.isBlank c=false/\c≠35)->Q .non H'
theorem inV4 (x:Int):inV (.int x) [.int 9,.int 10,.int 13,.int 32]=(decide (x=9) || (decide (x=10) || (decide (x=13) || decide (x=32)))):=by
 show ((9 == x) || ((10 == x) || ((13 == x) || ((32 == x) || false))))=_
 rw [Bool.or_false]
 congr 1
 ·rw [Bool.beq_comm]; exact Bool.beq_eq_decide_eq _ _
 ·congr 1
  ·rw [Bool.beq_comm]; exact Bool.beq_eq_decide_eq _ _
  ·congr 1
   ·rw [Bool.beq_comm]; exact Bool.beq_eq_decide_eq _ _
   ·rw [Bool.beq_comm]; exact Bool.beq_eq_decide_eq _ _
theorem qlo (c:Nat):(decide ((c:Int)=9) || (decide ((c:Int)=10) || (decide ((c:Int)=13) || decide ((c:Int)=32))))=Sc25.isBlank c:=by
 unfold Sc25.isBlank
 simp only [Bool.beq_eq_decide_eq]
 congr 1
 ·apply decide_eq_decide.mpr; omega
 ·congr 1
  ·apply decide_eq_decide.mpr; omega
  ·congr 1 <;> (apply decide_eq_decide.mpr; omega)
theorem qhU (T:Txt K mg A) (B:Tbl P w K A):Ok P w K mg base CX0 3 A.zc ["self"] (qmw K A):=by
 obtain ⟨fd,F,bi⟩:=T.Yd
 obtain ⟨fb,G,bb⟩:=WK (P:=P) (w:=w) (base:=base) T
 obtain ⟨fr,G2,b2⟩:=qhZ (P:=P) (w:=w) (base:=base) T
 obtain ⟨t1,h1⟩:=T.qji
 refine ⟨fd,F.ok VB (fun vs H Q E h=>?_) (fun cdv AA outer s H vs Q E hr h=>?_),bi⟩
 ·obtain ⟨sc,a,b,k,rfl,_⟩:=h
  rfl
 ·obtain ⟨sc,a,b,k,rfl,S,q⟩:=h
  have nd:=VB.nd
  refine ⟨_,pss_one (ps_while PassesOwn.never (pt_val pe_bl) (pss_cons (ps_set (i:=1) nd rfl (Or.inl rfl) (pe_meth (pv 0) T.qD T.jJ G (hr.mono (by decide)) bb .nil pass0 (pa_cons (pe_fld (pv 0) rfl) pa_nil)))
   (pss_one (ps_if (pt_cmpR op_in_seq (pv 1) (pe_glob rfl T.qio (v:=.ref A.wQ) rfl) (by with_unfolding_all rfl)) (pss_one (ps_fldaug (pv 0) pe_int in_add))
    (pss_one (ps_if (pt_cmpR op_eq (pv 1) (pe_glob rfl h1 (relI _ _)) (nomark _)) (pss_one (ps_expr (pe_meth0 (pv 0) T.qD T.Yg G2 hr b2 .nil pass0))) (pss_one ps_retN))))))),?_⟩
  refine ⟨fun m σ H'=>∃ j v,σ=[some (.ref sc),v]/\Kp [sc] H H'/\Sn K A H' sc a b j/\Ma.strm b j=Ma.strm b k/\m=b.length-j,⟨_,k,none,rfl,Kp.refl _ _,S,rfl,rfl⟩,?_⟩
  rintro m σ H1 ⟨j,v,rfl,k1,S1,e1,rfl⟩
  obtain ⟨dx,hsc⟩:=id S1.obj
  refine ⟨_,rfl,iteT ⟨fun σ' H'=>∃ m',m' < b.length-j/\∃ j v,σ'=[some (.ref sc),v]/\Kp [sc] H H'/\Sn K A H' sc a b j/\Ma.strm b j=Ma.strm b k/\m'=b.length-j,fun _ _ z=>z,?_⟩⟩
  refine me0 rfl hsc rfl (fl0 rfl hsc T.qD T.qH rfl ⟨sc,a,b,j,j,rfl,S1,?_⟩)
  refine ⟨_,rfl,A.wQ,_,rfl,.inr (B.blanks _),rfl,rfl,_,rfl,?_⟩
  show if (inV (.int (byteAt b j)) [.int 9,.int 10,.int 13,.int 32])=true then _ else _
  rw [inV4]
  cases hb:b[j]? with
  | none =>
   rw [qf8 hb]
   refine iteF ⟨_,rfl,rfl,_,rfl,iteF ?_⟩
   exact q _ j k1 S1 e1 fun c z=>by rw [hb] at z; cases z
  | some c =>
   rw [qgd hb,qlo]
   have lj:=Ma.Yh hb
   cases hc:Sc25.isBlank c with
   | true =>
    refine iteT ⟨_,rfl,sc,_,dx,_,_,rfl,hsc,T.qD,T.qH,rfl,_,_,rfl,rfl,dx,_,hsc,(by show 2 < 1000; decide),?_⟩
    have k3:Kp [sc] H1 (upd H1 sc (.ins A.qC dx [("text",.ref a),("position",.int ((j:Int)+1))])):=Kp.at (by simp)
    refine ⟨b.length-(j+1),by omega,j+1,_,rfl,k1.trans k3,S1.kp k3 (by omega) ⟨dx,upd_same⟩,?_,rfl⟩
    rw [<- e1]
    exact (Ma.qkS hb hc).symm
   | false =>
    refine iteF ⟨_,rfl,rfl,_,rfl,ite2 (fun z=>?_) fun z=>?_⟩
    ·have z:c=35:=by have:=of_decide_eq_true z; injection this with this; omega
     subst z
     refine me0 rfl hsc rfl ⟨sc,a,b,j,rfl,S1,fun H2 k2 S2=>?_⟩
     have f1:=Ma.Yu (p:=fun x=>x != 10) hb (by decide)
     have f2:=Ma.qhI (p:=fun x=>x != 10) (b:=b) (k:=j+1)
     refine ⟨b.length-Ma.far (fun x=>x != 10) b j,by omega,Ma.far (fun x=>x != 10) b j,_,rfl,k1.trans k2,S2,?_,rfl⟩
     rw [<- e1]
     exact (Ma.qlQ hb).symm
    ·have z:c≠35:=fun y=>z (by subst y; decide)
     exact q _ j k1 S1 e1 fun c' y=>by
      rw [hb] at y
      have:c=c':=Option.some.inj y
      subst this
      exact ⟨hc,z⟩
end
end Pg
namespace Pg
open PySem PySem.Spec PyProof.Rows L2 Xc
open Sc25 (Bytes Toks)
theorem Kp.made {L:List Addr} {H:Hp} {x dx:Addr} {o0 o:HO} (nx:H x=none) (nd:H dx=none):Kp L H (upd (upd (upd H dx (.own x)) x o0) x o):=fun b u e _=>by
 rw [upd_ne (ne_of_none e nx),upd_ne (ne_of_none e nx),upd_ne (ne_of_none e nd)]
 exact e
def valS:Sc25.Tok->V
 | .name w=>.str (Ma.sB w)
 | .num n=>.int (n:Nat)
 | _=>.str ""
def jU (A:Adr) (H:Hp) (x:Addr) (k:Str) (v:V) (p:Nat):Prop:=∃ d:Addr×V,H x=some (.ins A.qW d.1 [("kind",.str k),("value",v),("place",.int p),("spelling",d.2)])
def TokR (A:Adr) (H:Hp) (x:Addr) (t:Sc25.Tok×Nat):Prop:=jU A H x (Ma.kindS t.1) (valS t.1) t.2
def Nxt (b:Bytes) (x:Sc25.Tok×Nat) (j:Nat) (r:Toks):Prop:=(x.1≠.ended->x.1≠.bad->Ma.strm b j=r)/\(x.1=.ended->j=b.length)
def Tk (K:PySem.W.Frag) (A:Adr) (H:Hp) (Q:VK) (E:XK) (sc a:Addr) (b:Bytes) (k:Nat):Prop:=∃ x r,Ma.strm b k=x :: r/\(x.1=.long->∀ H',E (.int (-5) 0) none H') /\
 (x.1≠.long->∀ H' y j,TokR A H' y x->Kp [sc] H H'->Sn K A H' sc a b j->Nxt b x j r->Q (.ref y) H')
def qov (K:PySem.W.Frag) (A:Adr):Sp:=fun vs H Q E=>∃ sc a b k c,vs=[.ref sc]/\Sn K A H sc a b k/\b[k]?=some c/\Sc25.isBlank c=false/\c≠35/\Sc25.isLetter c=false/\Sc25.isDigit c=true/\Tk K A H Q E sc a b k
def qof (K:PySem.W.Frag) (A:Adr):Sp:=fun vs H Q E=>∃ sc a b k c,vs=[.ref sc]/\Sn K A H sc a b k/\b[k]?=some c/\Sc25.isBlank c=false/\c≠35/\Sc25.isLetter c=true/\Tk K A H Q E sc a b k
def qoj (K:PySem.W.Frag) (A:Adr):Sp:=fun vs H Q E=>∃ sc a b k c,vs=[.ref sc,.int (c:Nat)]/\Sn K A H sc a b k/\b[k]?=some c/\Sc25.isBlank c=false/\c≠35/\Sc25.isLetter c=false/\Sc25.isDigit c=false/\Tk K A H Q E sc a b k
def gC (b:Bytes) (k:Nat):Nat:=(b[k]?).getD 256
theorem qiY (b:Bytes) (k:Nat):byteAt b k=((gC b k:Nat):Int):=by
 unfold byteAt gC
 cases b[k]? <;> rfl
section
variable {P:Program} {w:World} {K:PySem.W.Frag} {mg:Str->Option Value} {base:Heap} {A:Adr}
theorem raise5 {D:Ends} {σ:L2.St} {H:Hp} {E:XK} (h:∀ H',E (.int (-5) 0) none H'):qfU A.zB (qhm A.zB (-5)) tNil E D σ H:=by
 refine ⟨Nat.zero_le _,fun e tp he ht hne=>⟨e,tp,rfl,upd_same,fun d hd=>⟨rfl,d,-5,?_,?_,?_,upd_same,?_,h⟩⟩⟩
 ·have n1:d≠e:=fun z=>by rw [z,upd_same] at hd; cases hd
  rw [upd_ne n1] at hd
  have n2:d≠tp:=fun z=>by rw [z,upd_same] at hd; cases hd
  rw [upd_ne n2] at hd
  exact hd
 ·intro z; rw [z,upd_same] at hd; cases hd
 ·have n1:d≠e:=fun z=>by rw [z,upd_same] at hd; cases hd
  rw [upd_ne n1] at hd
  intro z; rw [z,upd_same] at hd; cases hd
 ·have n1:d≠e:=fun z=>by rw [z,upd_same] at hd; cases hd
  rw [upd_ne n1,upd_same]
theorem qmS (v n M:Nat):(if ((M:Nat):Int) < ((min v M:Nat):Int) * 10+(n:Int)-48 then ((M:Nat):Int) else ((min v M:Nat):Int) * 10+(n:Int)-48)=((min (10 * v+(n-48)) M:Nat):Int)\/n < 48:=by
 by_cases hn:n < 48
 ·exact .inr hn
 ·left
  rcases Nat.le_total v M with h | h
  ·rw [Nat.min_eq_left h]
   split
   ·rw [Nat.min_eq_right (by omega)]
   ·rw [Nat.min_eq_left (by omega)]; omega
  ·rw [Nat.min_eq_right h]
   have:min (10 * v+(n-48)) M=M:=Nat.min_eq_right (by omega)
   rw [this]
   split
   ·rfl
   ·have:M=0\/0 < M:=by omega
    rcases this with z | z
    ·subst z; omega
    ·omega
theorem qhL (T:Txt K mg A):Ok P w K mg base (CXr P w K A.qi) 4 A.zf ["self"] (qov K A):=by
 obtain ⟨fd,F,bi⟩:=T.VP
 obtain ⟨fb,G,bb⟩:=WK (P:=P) (w:=w) (base:=base) T
 obtain ⟨fg,G2,b2⟩:=qc6 (P:=P) (w:=w) (base:=base) T
 obtain ⟨fo,G3,b3⟩:=QZ (P:=P) (w:=w) (base:=base) T
 obtain ⟨ft,G4,b4⟩:=Z6 (P:=P) (w:=w) (base:=base) T
 obtain ⟨fdd,Fd,_⟩:=T.Yc
 obtain ⟨t1,h1⟩:=T.Wy
 refine ⟨fd,F.okR VH (fun vs H Q E h=>?_) (fun cdv AA outer s H vs Q E hr h=>?_),bi⟩
 ·obtain ⟨sc,a,b,k,c,rfl,_⟩:=h
  rfl
 ·obtain ⟨sc,a,b,k,c,rfl,S,hb,c1,c2,c3,c4,x,r,es,z1,z2⟩:=h
  have nd:=VH.nd
  have hr1:=hr.mono (show 1<=3 by decide)
  have hr2:=hr.mono (show 2<=3 by decide)
  refine ⟨_,pss_cons (ps_set (i:=1) nd rfl (Or.inl rfl) (pe_fld (pv 0) rfl)) (pss_cons (ps_set (i:=2) nd rfl (Or.inl rfl) pe_int)
   (pss_cons (ps_set (i:=3) nd rfl (Or.inl rfl) (pe_meth (pv 0) T.qD T.jJ G hr1 bb .nil pass0 (pa_cons (pv 1) pa_nil)))
   (pss_cons (ps_while qbn (pt_val (pe_call G2 hr1 rfl T.qal Fd.kp b2 .nil pass0 (pa_cons (pv 3) pa_nil)))
    (pss_cons (ps_set (i:=2) nd rfl (Or.inl rfl) (pe_callB (call_min2 rfl) (by rfl) T.qkp (by decide +kernel) (pa_cons (pe_op op_sub (pe_op op_add (pe_op op_mul (pv 2) pe_int) (pv 3)) pe_int) (pa_cons (pe_glob rfl h1 (relI _ _)) pa_nil))))
    (pss_cons (ps_fldaug (pv 0) pe_int in_add) (pss_one (ps_set (i:=3) nd rfl (Or.inl rfl) (pe_meth (pv 0) T.qD T.jJ G hr1 bb .nil pass0 (pa_cons (pe_fld (pv 0) rfl) pa_nil)))))))
   (pss_cons (ps_if (pt_cmpR op_eq (pv 2) (pe_glob rfl h1 (relI _ _)) (nomark _)) (pss_one (qaA T.Wa T.Wr G3 hr b3 rfl T.J4)) pss_nil)
   (pss_one (ps_ret (pe_make T.qaj G4 hr2 rfl T.X8 b4 .nil pass0 (pa_cons pe_str (pa_cons (pv 2) (pa_cons (pv 1) (pa_cons (pe_slice sl_list (pe_fld (pv 0) rfl) (po_some (pv 1)) (po_some (pe_fld (pv 0) rfl))) pa_nil))))))))))),?_⟩
  obtain ⟨dx,hsc⟩:=id S.obj
  refine fl0 rfl hsc T.qD T.qH rfl ?_
  refine me0 rfl hsc rfl ⟨_,rfl,sc,a,b,k,k,rfl,S,?_⟩
  refine ⟨fun m σ H'=>∃ j,σ=[some (.ref sc),some (.int k),some (.int ((min (Sc25.valueOf ((b.drop k).take (j-k))) Sc25.W:Nat):Int)),some (.int (byteAt b j))]/\k<=j/\Kp [sc] H H'/\Sn K A H' sc a b j/\Ma.far Sc25.isDigit b j=Ma.far Sc25.isDigit b k/\m=b.length-j,
   ⟨_,k,?_,Nat.le_refl _,Kp.refl _ _,S,rfl,rfl⟩,?_⟩
  ·rw [Nat.sub_self,List.take_zero]
   rfl
  rintro m σ H1 ⟨j,rfl,kj,k1,S1,e1,rfl⟩
  obtain ⟨dx1,hsc1⟩:=id S1.obj
  rw [qiY]
  refine ⟨_,rfl,gC b j,rfl,_,rfl,?_⟩
  cases hd:Sc25.isDigit (gC b j) with
  | false =>
   refine iteF ?_
   have ej:j=Ma.far Sc25.isDigit b k:=by
    rw [<- e1]
    cases hbj:b[j]? with
    | none=>rw [Ma.qid hbj]
    | some cj =>
     have e:gC b j=cj:=by unfold gC; rw [hbj]; rfl
     rw [e] at hd
     rw [Ma.qgW hbj hd]
   rw [Ma.qmm hb c1 c2 c3 c4,<- ej] at es
   injection es with ex er
   refine ⟨_,rfl,rfl,_,rfl,ite2 (fun z=>?_) fun z=>?_⟩
   ·have z:min (Sc25.valueOf ((b.drop k).take (j-k))) Sc25.W=4294967296:=by have:=of_decide_eq_true z; injection this with this; exact Int.ofNat.inj this
    have hw:Sc25.W<=Sc25.valueOf ((b.drop k).take (j-k)):=by
     have e:Sc25.W=4294967296:=rfl
     rw [e] at z ⊢
     omega
    rw [if_pos hw] at ex
    exact raise5 (z1 (by rw [<- ex]))
   ·have z:¬ min (Sc25.valueOf ((b.drop k).take (j-k))) Sc25.W=4294967296:=fun y=>z (by rw [y]; exact decide_eq_true rfl)
    have hw:¬ Sc25.W<=Sc25.valueOf ((b.drop k).take (j-k)):=by
     have e:Sc25.W=4294967296:=rfl
     rw [e] at z ⊢
     omega
    rw [if_neg hw] at ex
    have e4:min (Sc25.valueOf ((b.drop k).take (j-k))) Sc25.W=Sc25.valueOf ((b.drop k).take (j-k)):=by omega
    rw [e4]
    refine ⟨_,rfl,_,rfl,_,rfl,sc,_,dx1,_,_,rfl,hsc1,T.qD,T.wG,rfl,_,rfl,_,rfl,_,rfl,sc,_,dx1,_,_,rfl,hsc1,T.qD,T.qH,rfl,_,rfl,a,_,rfl,S1.txt,fun sp hsp=>fun y dy ny ndy ney=>⟨y,dy,_,rfl,rfl,upd_same,rfl,?_⟩⟩
    have nsp:sc≠sp:=ne_of_none hsc1 hsp
    have k4:=(Kp.new (L:=[sc]) hsp).trans (Kp.made (L:=[sc]) (o0:=.ins A.qW dy []) (o:=.ins A.qW dy [("kind",.str "number"),("value",.int ((Sc25.valueOf ((b.drop k).take (j-k)):Nat):Int)),("place",.int k),("spelling",.ref sp)]) ny ndy)
    have hsc2:=fun o:HO=>show upd H1 sp o sc=_ from (upd_ne nsp).trans hsc1
    have nsc:sc≠y:=ne_of_none (hsc2 _) ny
    have nsd:sc≠dy:=ne_of_none (hsc2 _) ndy
    refine z2 (by rw [<- ex]; exact fun q=>nomatch q) _ y j ?_ (k1.trans k4) (S1.kp k4 S1.le ⟨dx1,by rw [upd_ne nsc,upd_ne nsc,upd_ne nsd]; exact hsc2 _⟩) ⟨fun _ _=>er,fun q=>by rw [<- ex] at q; cases q⟩
    rw [<- ex]
    exact ⟨(dy,.ref sp),upd_same⟩
  | true =>
   obtain ⟨cj,hbj⟩:∃ cj,b[j]?=some cj:=by
    cases q:b[j]? with
    | none =>
     have e:gC b j=256:=by unfold gC; rw [q]; rfl
     rw [e] at hd
     cases hd
    | some cj=>exact ⟨cj,rfl⟩
   have e:gC b j=cj:=by unfold gC; rw [hbj]; rfl
   rw [e] at hd ⊢
   refine iteT ⟨fun σ' H'=>∃ m',m' < b.length-j/\∃ j,σ'=[some (.ref sc),some (.int k),some (.int ((min (Sc25.valueOf ((b.drop k).take (j-k))) Sc25.W:Nat):Int)),some (.int (byteAt b j))]/\k<=j/\Kp [sc] H H'/\Sn K A H' sc a b j/\Ma.far Sc25.isDigit b j=Ma.far Sc25.isDigit b k/\m'=b.length-j,fun _ _ z=>z,?_⟩
   have lj:=Ma.Yh hbj
   have hn:48<=cj/\cj<=57:=by
    unfold Sc25.isDigit at hd
    simpa using hd
   have lv:min (Sc25.valueOf ((b.drop k).take (j-k))) Sc25.W<=4294967296:=Nat.min_le_right _ _
   refine ⟨_,rfl,_,_,rfl,rfl,.inl ⟨by omega,by omega⟩,_,rfl,_,_,rfl,rfl,_,_,rfl,rfl,_,_,rfl,?_⟩
   refine ⟨_,rfl,sc,_,dx1,_,_,rfl,hsc1,T.qD,T.qH,rfl,_,_,rfl,rfl,dx1,_,hsc1,(by show 2 < 1000; decide),?_⟩
   have k3:Kp [sc] H1 (upd H1 sc (.ins A.qC dx1 [("text",.ref a),("position",.int ((j:Int)+1))])):=Kp.at (by simp)
   have S3:Sn K A (upd H1 sc (.ins A.qC dx1 [("text",.ref a),("position",.int ((j:Int)+1))])) sc a b (j+1):=S1.kp k3 (by omega) ⟨dx1,upd_same⟩
   refine me0 rfl upd_same rfl (fl0 rfl upd_same T.qD T.qH rfl ⟨sc,a,b,j+1,j+1,rfl,S3,?_⟩)
   refine ⟨b.length-(j+1),by omega,j+1,?_,by omega,k1.trans k3,S3,?_,rfl⟩
   ·have e2:Sc25.valueOf ((b.drop k).take (j+1-k))=10 * Sc25.valueOf ((b.drop k).take (j-k))+(cj-48):=by rw [Ma.qlV hbj kj,Ma.qkT]
    rw [e2]
    have e3:=(qmS (Sc25.valueOf ((b.drop k).take (j-k))) cj Sc25.W).resolve_right (by omega)
    show [some (V.ref sc),some (.int k),some (.int _),some _]=_
    rw [<- e3]
    rfl
   ·rw [<- e1]
    exact (Ma.Yu hbj hd).symm
end
end Pg
namespace Pg
open PySem PySem.Spec PyProof.Rows L2 Xc
open Sc25 (Bytes Toks)
abbrev Single (c:Nat):Prop:=c=33\/c=37\/c=38\/c=40\/c=41\/c=42\/c=43\/c=44\/c=45\/c=47\/c=59\/c=60\/c=61\/c=91\/c=93\/c=94\/c=123\/c=124\/c=125
abbrev qiT (c:Nat):Prop:=c=33\/c=43\/c=45\/c=60\/c=94
theorem qiC {c:Nat} (h:Single c):valV qhf (.inl (c:Int))=some (.str (Ma.kindS (.sign [c]))):=by
 rcases h with rfl | rfl | rfl | rfl | rfl | rfl | rfl | rfl | rfl | rfl | rfl | rfl | rfl | rfl | rfl | rfl | rfl | rfl | rfl <;> decide +kernel
theorem qiF {c:Nat} (h:qiT c):valV qhj (.inl (c:Int))=some (.str (Ma.kindS (.sign [c,61]))):=by
 rcases h with rfl | rfl | rfl | rfl | rfl <;> decide +kernel
theorem qkg {kvs:List (Key×V)} {k:Key} (h:∀ p ∈ kvs,p.1≠k):valV kvs k=none:=by
 unfold valV
 rw [List.find?_eq_none.mpr]
 ·rfl
 ·intro p hp
  simp [h p hp]
theorem qkv:qhf.all (fun p=>match p.1 with | .inl n=>decide (Single n.toNat) | _=>false)=true:=by decide +kernel
theorem qkX:qhj.all (fun p=>match p.1 with | .inl n=>decide (qiT n.toNat) | _=>false)=true:=by decide +kernel
theorem qmn {c:Nat} (h:¬ Single c):valV qhf (.inl (c:Int))=none:=qkg fun p hp q=>h (by
 have z:=List.all_eq_true.mp qkv p hp
 rw [q] at z
 exact of_decide_eq_true z)
theorem qmz {c:Nat} (h:¬ qiT c):valV qhj (.inl (c:Int))=none:=qkg fun p hp q=>h (by
 have z:=List.all_eq_true.mp qkX p hp
 rw [q] at z
 exact of_decide_eq_true z)
section
variable {P:Program} {w:World} {K:PySem.W.Frag} {mg:Str->Option Value} {base:Heap} {A:Adr}
theorem qaa (T:Txt K mg A) {D:Ends} {H:Hp} {sc a:Addr} {b:Bytes} {k c L:Nat} {ks:Str} (S:Sn K A H sc a b k) (hl:k+L<=b.length)
  (q:∀ H' y,jU A H' y ks (.str "") k->Kp [sc] H H'->Sn K A H' sc a b (k+L)->D.rt (.ref y) H') :
  tSeq (sFldAug K (tVar 0) (tVar 4) rAdd "position") (tRet (tMake A.qW (Yi A.qW ["kind","value","place","spelling"]) [] E0 (tCons (tVar 3) (tCons (tC (.str "")) (tCons (tVar 2) (tCons (tSl (rSlL K) (tFld K (tVar 0) "text") (tPart (tVar 2)) (tPart (tFld K (tVar 0) "position"))) tNil)))))) D
   [some (.ref sc),some (.int c),some (.int k),some (.str ks),some (.int L)] H:=by
 obtain ⟨dx,hsc⟩:=id S.obj
 refine ⟨_,rfl,sc,_,dx,_,_,rfl,hsc,T.qD,T.qH,rfl,_,rfl,_,_,rfl,rfl,dx,_,hsc,(by show 2 < 1000; decide),?_⟩
 have k3:Kp [sc] H (upd H sc (.ins A.qC dx [("text",.ref a),("position",.int ((k:Int)+L))])):=Kp.at (by simp)
 have S3:=S.kp k3 hl ⟨dx,by rw [upd_same]; rfl⟩
 refine ⟨_,rfl,_,rfl,_,rfl,sc,_,dx,_,_,rfl,upd_same,T.qD,T.wG,rfl,_,rfl,_,rfl,_,rfl,sc,_,dx,_,_,rfl,upd_same,T.qD,T.qH,rfl,_,rfl,a,_,rfl,S3.txt,fun sp hsp=>fun y dy ny ndy ney=>⟨y,dy,_,rfl,rfl,upd_same,rfl,?_⟩⟩
 have nsp:sc≠sp:=ne_of_none upd_same hsp
 have hsc2:=fun o:HO=>show upd (upd H sc (.ins A.qC dx [("text",.ref a),("position",.int ((k:Int)+L))])) sp o sc=_ from (upd_ne nsp).trans upd_same
 have nsc:sc≠y:=ne_of_none (hsc2 _) ny
 have nsd:sc≠dy:=ne_of_none (hsc2 _) ndy
 have k4:=(Kp.new (L:=[sc]) hsp).trans (Kp.made (L:=[sc]) (o0:=.ins A.qW dy []) (o:=.ins A.qW dy [("kind",.str ks),("value",.str ""),("place",.int k),("spelling",.ref sp)]) ny ndy)
 refine q _ y ⟨(dy,.ref sp),upd_same⟩ (k3.trans k4) (S.kp (k3.trans k4) hl ⟨dx,?_⟩)
 rw [upd_ne nsc,upd_ne nsc,upd_ne nsd,upd_ne nsp,upd_same]
 rfl
theorem qgB {b:Bytes} {j n:Nat} (hn:n<=255):(byteAt b j=(n:Int))↔b[j]?=some n:=by
 unfold byteAt
 cases b[j]? with
 | none=>simp; omega
 | some c=>simp; omega
theorem qja (T:Txt K mg A) (B:Tbl P w K A):Ok P w K mg base CX0 3 A.zM ["self","first"] (qoj K A):=by
 obtain ⟨fd,F,bi⟩:=T.KZ
 obtain ⟨fb,G,bb⟩:=WK (P:=P) (w:=w) (base:=base) T
 obtain ⟨ft,G4,b4⟩:=Z6 (P:=P) (w:=w) (base:=base) T
 obtain ⟨t1,h1⟩:=T.qjD
 obtain ⟨t2,h2⟩:=T.qlN
 obtain ⟨t3,h3⟩:=T.qim
 refine ⟨fd,F.ok GR (fun vs H Q E h=>?_) (fun cdv AA outer s H vs Q E hr h=>?_),bi⟩
 ·obtain ⟨sc,a,b,k,c,rfl,_⟩:=h
  rfl
 ·obtain ⟨sc,a,b,k,c,rfl,S,hb,c1,c2,c3,c4,x,r,es,z1,z2⟩:=h
  have nd:=GR.nd
  have hr1:=hr.mono (show 1<=2 by decide)
  refine ⟨_,pss_cons (ps_set (i:=2) nd rfl (Or.inl rfl) (pe_fld (pv 0) rfl)) (pss_cons (ps_set (i:=3) nd rfl (Or.inl rfl) (qmx B.signs (pe_glob (by rfl) T.qi2 (by rfl)) (pv 1) pe_str ⟨rfl,rfl,rfl,rfl⟩))
   (pss_cons (ps_set (i:=4) nd rfl (Or.inl rfl) pe_int)
   (pss_cons (ps_if (pw_and (pt_cmp (qly B.signse (pv 1) (pe_glob (by rfl) T.ZV (by rfl))) (by with_unfolding_all rfl)) (pw_and1 (pt_cmpR op_eq (pe_meth (pv 0) T.qD T.jJ G hr1 bb .nil pass0 (pa_cons (pe_op op_add (pv 2) pe_int) pa_nil)) (pe_glob (by rfl) h1 (relI _ _)) (nomark _)))).pt
    (pss_cons (ps_set (i:=3) nd rfl (Or.inl rfl) (qhX B.signse (pe_glob (by rfl) T.ZV (by rfl)) (pv 1) (fun _ _=>rfl))) (pss_cons (ps_set (i:=4) nd rfl (Or.inl rfl) pe_int)
     (pss_one (ps_if (pw_and (pt_cmpR op_eq (pv 1) (pe_glob (by rfl) h2 (relI _ _)) (nomark _)) (pw_and1 (pt_cmpR op_eq (pe_meth (pv 0) T.qD T.jJ G hr1 bb .nil pass0 (pa_cons (pe_op op_add (pv 2) pe_int) pa_nil)) (pe_glob (by rfl) h3 (relI _ _)) (nomark _)))).pt
      (pss_cons (ps_set (i:=3) nd rfl (Or.inl rfl) pe_str) (pss_one (ps_set (i:=4) nd rfl (Or.inl rfl) pe_int))) pss_nil)))) pss_nil)
   (pss_cons (ps_fldaug (pv 0) (pv 4) in_add)
   (pss_one (ps_ret (pe_make T.qaj G4 hr rfl T.X8 b4 .nil pass0 (pa_cons (pv 3) (pa_cons pe_str (pa_cons (pv 2) (pa_cons (pe_slice sl_list (pe_fld (pv 0) rfl) (po_some (pv 2)) (po_some (pe_fld (pv 0) rfl))) pa_nil))))))))))),?_⟩
  obtain ⟨dx,hsc⟩:=id S.obj
  have lk:=Ma.Yh hb
  rw [Ma.qif hb c1 c2 c3 c4] at es
  unfold Ma.Kg at es
  have fin:∀ s:Bytes,x=(.sign s,k)->Ma.strm b (k+s.length)=r->∀ H' y,jU A H' y (Ma.kindS (.sign s)) (.str "") k->Kp [sc] H H'->Sn K A H' sc a b (k+s.length)->Q (.ref y) H':=fun s ex er H' y t1 t2 t3=>by
   refine z2 (by rw [ex]; exact fun q=>nomatch q) H' y _ ?_ t2 t3 ⟨fun _ _=>er,fun q=>by rw [ex] at q; cases q⟩
   rw [ex]
   exact t1
  refine fl0 rfl hsc T.qD T.qH rfl ?_
  refine ⟨_,rfl,.inl (c:Int),rfl,?_⟩
  refine ⟨_,rfl,.inl (c:Int),rfl,_,rfl,?_⟩
  by_cases hE:qiT c
  ·rw [qiF hE]
   refine iteT (me0 rfl hsc rfl ⟨_,rfl,_,_,rfl,rfl,sc,a,b,k,k+1,rfl,S,rfl,_,rfl,?_⟩)
   by_cases h61:b[k+1]?=some 61
   ·have hv:byteAt b (k+1)=61:=(qgB (n:=61) (by decide)).mpr h61
    rw [hv]
    have l1:=Ma.Yh h61
    refine iteT ⟨_,rfl,.inl (c:Int),_,rfl,qiF hE,?_⟩
    refine ⟨_,rfl,rfl,_,rfl,?_⟩
    rw [if_pos ⟨hE,h61⟩] at es
    by_cases h60:c=60
    ·subst h60
     refine iteT (me0 rfl hsc rfl ⟨_,rfl,_,_,rfl,rfl,sc,a,b,k,k+2,rfl,S,rfl,_,rfl,?_⟩)
     by_cases h62:b[k+2]?=some 62
     ·have hv2:byteAt b (k+2)=62:=(qgB (n:=62) (by decide)).mpr h62
      rw [hv2]
      have l2:=Ma.Yh h62
      rw [if_pos ⟨rfl,h62⟩] at es
      injection es with ex er
      refine iteT ?_
      exact qaa (L:=3) (ks:=Ma.kindS (.sign [60,61,62])) T S (by omega) (fin [60,61,62] ex.symm er)
     ·have hv2:¬ (V.int (byteAt b (k+2))=V.int 62):=fun q=>h62 ((qgB (n:=62) (by decide)).mp (by injection q))
      rw [decide_eq_false hv2]
      rw [if_neg (fun q=>h62 q.2)] at es
      injection es with ex er
      refine iteF ?_
      exact qaa (L:=2) (ks:=Ma.kindS (.sign [60,61])) T S (by omega) (fin [60,61] ex.symm er)
    ·have hc:¬ (V.int (c:Int)=V.int 60):=fun q=>h60 (by injection q with q; omega)
     rw [decide_eq_false hc]
     rw [if_neg (fun q=>h60 q.1)] at es
     injection es with ex er
     refine iteF (iteF ?_)
     exact qaa (L:=2) (ks:=Ma.kindS (.sign [c,61])) T S (by omega) (fin [c,61] ex.symm er)
   ·have hv:¬ (V.int (byteAt b (k+1))=V.int 61):=fun q=>h61 ((qgB (n:=61) (by decide)).mp (by injection q))
    rw [decide_eq_false hv]
    rw [if_neg (fun q=>h61 q.2)] at es
    have hS:Single c:=by rcases hE with rfl | rfl | rfl | rfl | rfl <;> omega
    rw [if_pos hS] at es
    injection es with ex er
    refine iteF ?_
    rw [qiC hS]
    exact qaa (L:=1) (ks:=Ma.kindS (.sign [c])) T S (by omega) (fin [c] ex.symm er)
  ·rw [qmz hE]
   rw [if_neg (fun q=>hE q.1)] at es
   refine iteF (iteF ?_)
   by_cases hS:Single c
   ·rw [if_pos hS] at es
    injection es with ex er
    rw [qiC hS]
    exact qaa (L:=1) (ks:=Ma.kindS (.sign [c])) T S (by omega) (fin [c] ex.symm er)
   ·rw [if_neg hS] at es
    injection es with ex er
    rw [qmn hS]
    refine qaa (L:=1) (ks := "other") T S (by omega) fun H' y t1 t2 t3=>?_
    refine z2 (by rw [<- ex]; exact fun q=>nomatch q) H' y _ ?_ t2 t3 ⟨fun _ q=>absurd (by rw [<- ex]) q,fun q=>by rw [<- ex] at q; cases q⟩
    rw [<- ex]
    exact t1
end
end Pg
namespace Pg
open PySem PySem.Spec PyProof.Rows L2 Xc
open Sc25 (Bytes Toks)
theorem qis (a b:Bytes):Ma.sB a++Ma.sB b=Ma.sB (a++b):=by
 show Str.mk (a.toArray++b.toArray)=Str.mk (a++b).toArray
 rw [List.append_toArray]
theorem qhv:∀ w:Bytes,Str.join ("" : Str) (w.map fun c=>Ma.sB [c])=Ma.sB w
 | []=>rfl
 | [c]=>rfl
 | c :: d :: r=>by
  show Ma.sB [c]++("" : Str)++Str.join ("" : Str) ((d :: r).map fun c=>Ma.sB [c])=_
  rw [qhv (d :: r),show ("" : Str)=Ma.sB [] from rfl,qis,qis]
  rfl
theorem qoa (a b:Bytes):(Ma.sB a == Ma.sB b)=(a == b):=by
 by_cases h:a=b
 ·subst h; simp
 ·have h2:Ma.sB a≠Ma.sB b:=fun q=>h (Ma.Xq q)
  rw [beq_eq_false_iff_ne.mpr h,beq_eq_false_iff_ne.mpr h2]
theorem qkk (w:Bytes):∀ l:List Bytes,inV (.str (Ma.sB w)) (l.map fun w=>V.str (Ma.sB w))=l.contains w
 | []=>rfl
 | v :: l=>by
  show ((Ma.sB v == Ma.sB w) || inV (.str (Ma.sB w)) (l.map fun w=>V.str (Ma.sB w)))=_
  rw [qkk w l,qoa,List.contains_cons,Bool.beq_comm]
theorem qlF (l:List Bytes):(l.map fun w=>V.str (Ma.sB w)).all flatV=true:=by
 rw [List.all_map]
 simp [flatV]
theorem qkd:FnScope ["self","place","spelling","word","byte"] ["self"] (defScope gD):=⟨rfl,rfl,rfl,by decide +kernel,rfl,by decide +kernel,by decide +kernel⟩
theorem qmy (w:Bytes):((w.map fun c=>Ma.sB [c]).map (·.length)).sum=w.length:=by
 induction w with
 | nil=>rfl
 | cons c r ih =>
  rw [List.map_cons,List.map_cons,List.sum_cons,ih,List.length_cons]
  show 1+_=_
  omega
section
variable {P:Program} {w:World} {K:PySem.W.Frag} {mg:Str->Option Value} {base:Heap} {A:Adr}
theorem qjs (T:Txt K mg A) (B:Tbl P w K A):Ok P w K mg base (CXr P w K A.qi) 4 A.zK ["self"] (qof K A):=by
 obtain ⟨fd,F,bi⟩:=T.GP
 obtain ⟨fb,G,bb⟩:=WK (P:=P) (w:=w) (base:=base) T
 obtain ⟨fg,G2,b2⟩:=qgF (P:=P) (w:=w) (base:=base) T
 obtain ⟨fo,G3,b3⟩:=QZ (P:=P) (w:=w) (base:=base) T
 obtain ⟨ft,G4,b4⟩:=Z6 (P:=P) (w:=w) (base:=base) T
 obtain ⟨fl,G5,b5⟩:=qjx (P:=P) (w:=w) (base:=base) T
 obtain ⟨fdd,Fd,_⟩:=T.Vs
 obtain ⟨fdl,Fl,_⟩:=T.qco
 obtain ⟨t1,h1⟩:=T.qd4
 refine ⟨fd,F.okR qkd (fun vs H Q E h=>?_) (fun cdv AA outer s H vs Q E hr h=>?_),bi⟩
 ·obtain ⟨sc,a,b,k,c,rfl,_⟩:=h
  rfl
 ·obtain ⟨sc,a,b,k,c,rfl,S,hb,c1,c2,c3,x,r,es,z1,z2⟩:=h
  have nd:=qkd.nd
  have hr1:=hr.mono (show 1<=3 by decide)
  have hr2:=hr.mono (show 2<=3 by decide)
  refine ⟨_,pss_cons (ps_set (i:=1) nd rfl (Or.inl rfl) (pe_fld (pv 0) rfl))
   (pss_cons (ps_while qbn (pt_val (pe_call G2 hr2 rfl T.qa5 Fd.kp b2 .nil pass0 (pa_cons (pe_meth (pv 0) T.qD T.jJ G hr1 bb .nil pass0 (pa_cons (pe_fld (pv 0) rfl) pa_nil)) pa_nil)))
    (pss_one (ps_fldaug (pv 0) pe_int in_add)))
   (pss_cons (ps_if (pt_cmpR op_gt (pe_op op_sub (pe_fld (pv 0) rfl) (pv 1)) (pe_glob rfl h1 (relI _ _)) (nomark _)) (pss_one (qaA T.Wa T.Wr G3 hr b3 rfl T.J4)) pss_nil)
   (pss_cons (ps_set (i:=2) nd rfl (Or.inl rfl) (pe_slice sl_list (pe_fld (pv 0) rfl) (po_some (pv 1)) (po_some (pe_fld (pv 0) rfl)))) (pss_cons (ps_set (i:=3) nd rfl (Or.inl rfl) (pe_join pe_str (pe_lc (own:=[("byte",4)]) rfl nd (pi_list (pv 2)) (blkOk_by (show blkC ["self","place","spelling","word","byte"] (defScope gD) _ _=true by decide +kernel))
    (fun _ _ _ _ _=>pg_name (i:=4) nd rfl (Or.inl rfl) (Or.inr rfl)) (fun _ _ _ _ _=>pts_nil) (fun _ _ _ _ _=>pe_call G5 hr1 rfl T.qgn Fl.kp b5 .nil pass0 (pa_cons (pv 4) pa_nil)))))
   (pss_one (ps_ret (pe_make T.qaj G4 hr2 rfl T.X8 b4 .nil pass0 (pa_cons (pe_ifExp (pt_cmpR op_in_seq (pv 3) (pe_glob rfl T.qgK (v:=.ref A.jX) rfl) (by with_unfolding_all rfl)) (pv 3) pe_str) (pa_cons (pv 3) (pa_cons (pv 1) (pa_cons (pv 2) pa_nil))))))))))),?_⟩
  obtain ⟨dx,hsc⟩:=id S.obj
  refine fl0 rfl hsc T.qD T.qH rfl ?_
  refine ⟨fun m σ H'=>∃ j,σ=[some (.ref sc),some (.int k),none,none,none]/\k<=j/\Kp [sc] H H'/\Sn K A H' sc a b j/\Ma.far Sc25.isWord b j=Ma.far Sc25.isWord b k/\m=b.length-j,
   ⟨_,k,rfl,Nat.le_refl _,Kp.refl _ _,S,rfl,rfl⟩,?_⟩
  rintro m σ H1 ⟨j,rfl,kj,k1,S1,e1,rfl⟩
  obtain ⟨dx1,hsc1⟩:=id S1.obj
  refine me0 rfl hsc1 rfl (fl0 rfl hsc1 T.qD T.qH rfl ⟨sc,a,b,j,j,rfl,S1,gC b j,(by rw [qiY]; rfl),_,rfl,?_⟩)
  cases hd:Sc25.isWord (gC b j) with
  | false =>
   refine iteF ?_
   have ej:j=Ma.far Sc25.isWord b k:=by
    rw [<- e1]
    cases hbj:b[j]? with
    | none=>rw [Ma.qid hbj]
    | some cj =>
     have e:gC b j=cj:=by unfold gC; rw [hbj]; rfl
     rw [e] at hd
     rw [Ma.qgW hbj hd]
   have ew:(b.drop k).take (j-k)=(b.drop k).takeWhile Sc25.isWord:=by rw [ej]; exact Ma.qgT.symm
   have all:∀ c ∈ (b.drop k).take (j-k),Sc25.isWord c=true:=fun c hc=>by
    rw [ew] at hc
    exact List.all_eq_true.mp (List.all_takeWhile (p:=Sc25.isWord) (l:=b.drop k)) c hc
   have lw:((b.drop k).take (j-k)).length=j-k:=by
    rw [List.length_take,List.length_drop]
    have:=S1.le
    omega
   rw [Ma.qlO hb c1 c2 c3,<- ej] at es
   injection es with ex er
   refine ⟨_,rfl,sc,_,dx1,_,_,rfl,hsc1,T.qD,T.qH,rfl,_,rfl,_,_,rfl,rfl,_,_,rfl,rfl,_,rfl,ite2 (fun z=>?_) fun z=>?_⟩
   ·have z:31 < j-k:=by have:=of_decide_eq_true z; omega
    rw [if_pos z] at ex
    exact raise5 (z1 (by rw [<- ex]))
   ·have z:¬ 31 < j-k:=fun y=>z (decide_eq_true (by omega))
    rw [if_neg z] at ex
    refine ⟨_,rfl,sc,_,dx1,_,_,rfl,hsc1,T.qD,T.wG,rfl,_,rfl,_,rfl,_,rfl,sc,_,dx1,_,_,rfl,hsc1,T.qD,T.qH,rfl,_,rfl,a,_,rfl,S1.txt,fun p hp=>?_⟩
    have ec:cutV (b.map fun (c:Nat)=>V.int (c:Int)) (some (k:Int)) (some (j:Int))=((b.drop k).take (j-k)).map fun (c:Nat)=>V.int (c:Int):=by
     unfold cutV
     have:=S1.le
     rw [HT.sIx_nat,HT.sIx_nat,List.length_map,Nat.min_eq_left this,Nat.min_eq_left (show k<=b.length by omega),List.map_take,List.map_drop]
    rw [ec]
    refine ⟨⟨_,rfl⟩,_,rfl,p,rfl,⟨_,SqL.of upd_same⟩,fun D hD=>?_⟩
    have npD:p≠D:=ne_of_none upd_same hD
    have HD:∀ {bb:Addr} {o:HO},H1 bb=some o->bb≠p/\bb≠D:=fun {bb o} q=>⟨ne_of_none q hp,fun z=>by
     have n1:bb≠p:=ne_of_none q hp
     rw [z] at q n1
     rw [upd_ne n1,q] at hD
     cases hD⟩
    refine lc_list (K:=K) (a:=p) (xs:=((b.drop k).take (j-k)).map fun (c:Nat)=>V.int (c:Int))
     (fun i H'=>Kp [sc] H1 H'/\ScAt A H' sc a j/\H' p=some (.lst (((b.drop k).take (j-k)).map fun (c:Nat)=>V.int (c:Int)))/\H' D=some (.lst ((((b.drop k).take (j-k)).take i).map fun c=>V.str (Ma.sB [c]))))
     ⟨fun bb o q _=>?_,⟨dx1,?_⟩,?_,upd_same⟩ (fun i H' _ q=>SqL.of q.2.2.1) ?_ ?_
    ·obtain ⟨n1,n2⟩:=HD q
     rw [upd_ne n2,upd_ne n1]
     exact q
    ·obtain ⟨n1,n2⟩:=HD hsc1
     rw [upd_ne n2,upd_ne n1]
     exact hsc1
    ·rw [upd_ne npD,upd_same]
    ·rintro i y H2 hi ⟨q1,q2,q3,q4⟩
     obtain ⟨cc,hcc,rfl⟩:∃ cc,((b.drop k).take (j-k))[i]?=some cc/\y=V.int (cc:Nat):=by
      rw [List.getElem?_map] at hi
      cases q:((b.drop k).take (j-k))[i]? with
      | none=>rw [q] at hi; cases hi
      | some cc=>rw [q] at hi; exact ⟨cc,rfl,(Option.some.inj hi).symm⟩
     refine ⟨rfl,?_⟩
     dsimp only [tYes]
     rw [if_pos rfl]
     refine ⟨_,rfl,cc,rfl,all cc (List.mem_of_getElem? hcc),_,q4,?_,?_⟩
     ·rw [List.length_map,List.length_take,lw]
      exact Nat.lt_of_le_of_lt (Nat.min_le_right _ _) (Nat.lt_of_le_of_lt (show j-k<=31 by omega) (by decide))
     ·have nsD:sc≠D:=fun z=>by obtain ⟨d2,q2⟩:=q2; rw [z,q4] at q2; cases q2
      have npD2:p≠D:=npD
      refine ⟨fun bb o q n=>?_,?_,?_,?_⟩
      ·rw [upd_ne (HD q).2]; exact q1 bb o q n
      ·obtain ⟨d2,q2⟩:=q2
       exact ⟨d2,by rw [upd_ne nsD]; exact q2⟩
      ·rw [upd_ne npD2]; exact q3
      ·rw [upd_same,List.take_add_one,hcc,List.map_append]
       rfl
    ·rintro H2 ⟨q1,q2,q3,q4⟩
     rw [List.length_map,List.take_length] at q4
     refine ⟨_,D,(((b.drop k).take (j-k)).map fun c=>Ma.sB [c]),rfl,rfl,.inl (SqL.of (by rw [q4,List.map_map]; rfl)),?_,?_⟩
     ·rw [qmy,lw]
      show j-k+_ * 0<=_
      omega
     ·rw [TL.join_eq,qhv]
      obtain ⟨d2,hsc2⟩:=id q2
      have S2:Sn K A H2 sc a b j:=S1.kp q1 S1.le q2
      refine ⟨_,rfl,A.jX,_,rfl,.inr (B.kws _),rfl,qlF _,_,rfl,?_⟩
      show if (inV (.str (Ma.sB ((b.drop k).take (j-k)))) (Sc25.kept.map fun w=>V.str (Ma.sB w)))=true then _ else _
      rw [qkk]
      have fin:∀ ks:Str,Ma.kindS (.name ((b.drop k).take (j-k)))=ks->∀ y dy,H2 y=none->H2 dy=none->dy≠y ->
        Yi A.qW ["kind","value","place","spelling"] [.ref y,.str ks,.str (Ma.sB ((b.drop k).take (j-k))),.int k,.ref p] (upd (upd H2 dy (.own y)) y (.ins A.qW dy [])) (fun v H3=>v=.non/\Q (.ref y) H3) E0:=fun ks ek y dy ny ndy ney=>by
       refine ⟨y,dy,_,rfl,rfl,upd_same,rfl,?_⟩
       have k4:=Kp.made (L:=[sc]) (o0:=.ins A.qW dy []) (o:=.ins A.qW dy [("kind",.str ks),("value",.str (Ma.sB ((b.drop k).take (j-k)))),("place",.int k),("spelling",.ref p)]) ny ndy
       have nsc:sc≠y:=ne_of_none hsc2 ny
       have nsd:sc≠dy:=ne_of_none hsc2 ndy
       refine z2 (by rw [<- ex]; exact fun q=>nomatch q) _ y j ?_ ((k1.trans q1).trans k4) (S2.kp k4 S2.le ⟨d2,by rw [upd_ne nsc,upd_ne nsc,upd_ne nsd]; exact hsc2⟩) ⟨fun _ _=>er,fun q=>by rw [<- ex] at q; cases q⟩
       rw [<- ex]
       exact ⟨(dy,.ref p),by rw [upd_same,<- ek]; rfl⟩
      cases hk:Sc25.kept.contains ((b.drop k).take (j-k)) with
      | true =>
       refine iteT ⟨_,rfl,_,rfl,_,rfl,_,rfl,?_⟩
       exact fin _ (by unfold Ma.kindS; simp only [hk,if_true])
      | false =>
       refine iteF ⟨_,rfl,_,rfl,_,rfl,?_⟩
       exact fin _ (by unfold Ma.kindS; simp only [hk,Bool.false_eq_true,if_false])
  | true =>
   obtain ⟨cj,hbj⟩:∃ cj,b[j]?=some cj:=by
    cases q:b[j]? with
    | none =>
     have e:gC b j=256:=by unfold gC; rw [q]; rfl
     rw [e] at hd
     cases hd
    | some cj=>exact ⟨cj,rfl⟩
   have e:gC b j=cj:=by unfold gC; rw [hbj]; rfl
   rw [e] at hd
   have lj:=Ma.Yh hbj
   refine iteT ⟨fun σ' H'=>∃ m',m' < b.length-j/\∃ j,σ'=[some (.ref sc),some (.int k),none,none,none]/\k<=j/\Kp [sc] H H'/\Sn K A H' sc a b j/\Ma.far Sc25.isWord b j=Ma.far Sc25.isWord b k/\m'=b.length-j,fun _ _ z=>z,?_⟩
   refine ⟨_,rfl,sc,_,dx1,_,_,rfl,hsc1,T.qD,T.qH,rfl,_,_,rfl,rfl,dx1,_,hsc1,(by show 2 < 1000; decide),?_⟩
   have k3:Kp [sc] H1 (upd H1 sc (.ins A.qC dx1 [("text",.ref a),("position",.int ((j:Int)+1))])):=Kp.at (by simp)
   refine ⟨b.length-(j+1),by omega,j+1,rfl,by omega,k1.trans k3,S1.kp k3 (by omega) ⟨dx1,upd_same⟩,?_,rfl⟩
   rw [<- e1]
   exact (Ma.Yu hbj hd).symm
end
end Pg
namespace Pg
open PySem PySem.Spec PyProof.Rows L2 Xc
open Sc25 (Bytes Toks Bad)
theorem Tk.move {K:PySem.W.Frag} {A:Adr} {H H1:Hp} {Q:VK} {E:XK} {sc a:Addr} {b:Bytes} {k j:Nat} (h:Tk K A H Q E sc a b k) (hk:Kp [sc] H H1) (e:Ma.strm b j=Ma.strm b k):Tk K A H1 Q E sc a b j:=by
 obtain ⟨x,r,es,z1,z2⟩:=h
 exact ⟨x,r,e.trans es,z1,fun n H' y j' t1 t2 t3 t4=>z2 n H' y j' t1 (hk.trans t2) t3 t4⟩
def qoi (K:PySem.W.Frag) (A:Adr):Sp:=fun vs H Q E=>∃ sc a b k,vs=[.ref sc]/\Sn K A H sc a b k/\Tk K A H Q E sc a b k
section
variable {P:Program} {w:World} {K:PySem.W.Frag} {mg:Str->Option Value} {base:Heap} {A:Adr}
theorem qkl (T:Txt K mg A) (B:Tbl P w K A):Ok P w K mg base (CXr P w K A.qi) 5 A.jn ["self"] (qoi K A):=by
 obtain ⟨fd,F,bi⟩:=T.qcE
 obtain ⟨f1,G1,b1⟩:=qhU (P:=P) (w:=w) (base:=base) T B
 obtain ⟨f2,G2,b2⟩:=WK (P:=P) (w:=w) (base:=base) T
 obtain ⟨f3,G3,b3⟩:=qfE (P:=P) (w:=w) (base:=base) T
 obtain ⟨f4,G4,b4⟩:=qc6 (P:=P) (w:=w) (base:=base) T
 obtain ⟨f5,G5,b5⟩:=qjs (P:=P) (w:=w) (base:=base) T B
 obtain ⟨f6,G6,b6⟩:=qhL (P:=P) (w:=w) (base:=base) T
 obtain ⟨f7,G7,b7⟩:=qja (P:=P) (w:=w) (base:=base) T B
 obtain ⟨f8,G8,b8⟩:=Z6 (P:=P) (w:=w) (base:=base) T
 obtain ⟨_,Fl,_⟩:=T.KR
 obtain ⟨_,Fd,_⟩:=T.Yc
 obtain ⟨t1,h1⟩:=T.qcB
 refine ⟨fd,F.okR qcR (fun vs H Q E h=>?_) (fun cdv AA outer s H vs Q E hr h=>?_),bi⟩
 ·obtain ⟨sc,a,b,k,rfl,_⟩:=h
  rfl
 ·obtain ⟨sc,a,b,k,rfl,S,tk⟩:=h
  have nd:=qcR.nd
  have hr1:=hr.mono (show 1<=4 by decide)
  have hr2:=hr.mono (show 2<=4 by decide)
  have hr3:=hr.mono (show 3<=4 by decide)
  refine ⟨_,pss_cons (ps_expr (pe_meth0 (pv 0) T.qD T.V7 G1 hr3 b1 .nil pass0))
   (pss_cons (ps_set (i:=1) nd rfl (Or.inl rfl) (pe_meth (pv 0) T.qD T.jJ G2 hr1 b2 .nil pass0 (pa_cons (pe_fld (pv 0) rfl) pa_nil)))
   (pss_cons (ps_if (pt_cmpR op_eq (pv 1) (pe_glob rfl h1 (relI _ _)) (nomark _)) (pss_one (ps_ret (pe_make T.qaj G8 hr2 rfl T.X8 b8 .nil pass0 (pa_cons pe_str (pa_cons pe_str (pa_cons (pe_fld (pv 0) rfl) (pa_cons (pe_lst pa_nil) pa_nil))))))) pss_nil)
   (pss_cons (ps_if (pt_val (pe_call G3 hr1 rfl T.qbG Fl.kp b3 .nil pass0 (pa_cons (pv 1) pa_nil))) (pss_one (ps_ret (pe_meth0 (pv 0) T.qD T.GZ G5 hr b5 .nil qw))) pss_nil)
   (pss_cons (ps_if (pt_val (pe_call G4 hr1 rfl T.qal Fd.kp b4 .nil pass0 (pa_cons (pv 1) pa_nil))) (pss_one (ps_ret (pe_meth0 (pv 0) T.qD T.V5 G6 hr b6 .nil qw))) pss_nil)
   (pss_one (ps_ret (pe_meth (pv 0) T.qD T.Xr G7 hr3 b7 .nil pass0 (pa_cons (pv 1) pa_nil)))))))),?_⟩
  obtain ⟨dx,hsc⟩:=id S.obj
  refine me0 rfl hsc rfl ⟨sc,a,b,k,rfl,S,fun H1 j k1 S1 e1 ne=>?_⟩
  obtain ⟨d1,hsc1⟩:=id S1.obj
  have tk1:=tk.move k1 e1
  refine me0 rfl hsc1 rfl (fl0 rfl hsc1 T.qD T.qH rfl ⟨sc,a,b,j,j,rfl,S1,?_⟩)
  cases hb:b[j]? with
  | none =>
   rw [qf8 hb]
   obtain ⟨x,r,es,z1,z2⟩:=tk1
   have lj:b.length<=j:=List.getElem?_eq_none_iff.mp hb
   rw [Ma.qjo lj] at es
   injection es with ex er
   refine ⟨_,rfl,rfl,_,rfl,iteT ⟨_,rfl,sc,_,d1,_,_,rfl,hsc1,T.qD,T.qH,rfl,(by show 0<=sizeLine; decide),fun sp hsp=>fun y dy ny ndy ney=>⟨y,dy,_,rfl,rfl,upd_same,rfl,?_⟩⟩⟩
   have nsp:sc≠sp:=ne_of_none hsc1 hsp
   have k4:=(Kp.new (L:=[sc]) hsp).trans (Kp.made (L:=[sc]) (o0:=.ins A.qW dy []) (o:=.ins A.qW dy [("kind",.str "end"),("value",.str ""),("place",.int j),("spelling",.ref sp)]) ny ndy)
   have hsc2:=fun o:HO=>show upd H1 sp o sc=_ from (upd_ne nsp).trans hsc1
   have nsc:sc≠y:=ne_of_none (hsc2 _) ny
   have nsd:sc≠dy:=ne_of_none (hsc2 _) ndy
   refine z2 (by rw [<- ex]; exact fun q=>nomatch q) _ y j ?_ k4 (S1.kp k4 S1.le ⟨d1,by rw [upd_ne nsc,upd_ne nsc,upd_ne nsd]; exact hsc2 _⟩) ⟨fun q=>absurd (by rw [<- ex]) q,fun _=>Nat.le_antisymm S1.le lj⟩
   rw [<- ex]
   exact ⟨(dy,.ref sp),upd_same⟩
  | some c =>
   obtain ⟨c1,c2⟩:=ne c hb
   have lc:=S1.lt hb
   rw [qgd hb]
   refine ⟨_,rfl,rfl,_,rfl,?_⟩
   have n256:¬ (V.int (c:Int)=V.int 256):=fun q=>by injection q with q; omega
   rw [decide_eq_false n256]
   refine iteF ⟨_,rfl,c,rfl,_,rfl,?_⟩
   cases hl:Sc25.isLetter c with
   | true=>exact iteT (me0 rfl hsc1 rfl ⟨sc,a,b,j,c,rfl,S1,hb,c1,c2,hl,tk1⟩)
   | false =>
    refine iteF ⟨_,rfl,c,rfl,_,rfl,?_⟩
    cases hd:Sc25.isDigit c with
    | true=>exact iteT (me0 rfl hsc1 rfl ⟨sc,a,b,j,c,rfl,S1,hb,c1,c2,hl,hd,tk1⟩)
    | false =>
     refine iteF (me0 rfl hsc1 rfl ⟨_,rfl,sc,a,b,j,c,rfl,S1,hb,c1,c2,hl,hd,?_⟩)
     obtain ⟨x,r,es,z1,z2⟩:=tk1
     refine ⟨x,r,es,fun q=>?_,z2⟩
     rw [Ma.qif hb c1 c2 hl hd] at es
     split at es
     ·injection es with ex _
      rw [<- ex] at q
      cases q
     ·injection es with ex _
      rw [<- ex] at q
      cases q
def PaAt (A:Adr) (H:Hp) (p sc tk:Addr) (n:Int):Prop:=∃ dx,H p=some (.ins A.qg dx [("scanner",.ref sc),("token",.ref tk),("depth",.int n)])
structure Ps (K:PySem.W.Frag) (A:Adr) (H:Hp) (p sc a:Addr) (b:Bytes) (t:Toks) (n:Int):Prop where
 st:∃ tk k x r,PaAt A H p sc tk n/\TokR A H tk x/\t=x :: r/\Sn K A H sc a b k/\Nxt b x k r/\x.1≠.long/\Ma.Wf x.1
 sz:t.length<=70000
theorem Ps.long {K:PySem.W.Frag} {A:Adr} {H:Hp} {p sc a:Addr} {b:Bytes} {t:Toks} {n:Int} (h:Ps K A H p sc a b t n):Ma.qG t=false:=by
 obtain ⟨tk,k,x,r,_,_,rfl,_,_,n,_⟩:=h.st
 obtain ⟨x1,x2⟩:=x
 cases x1 <;> first | rfl | exact absurd rfl n
def num:Bad->Int
 | .wrong k=>-100-(k:Int)
 | .full=>-5
def Rz (E:XK) (b:Bad):Prop:=∀ H',E (.int (num b) 0) none H'
abbrev Kq (p sc:Addr) (H H':Hp):Prop:=Kp [p,sc] H H'
def Took (K:PySem.W.Frag) (A:Adr) (H:Hp) (Q:VK) (E:XK) (p sc a:Addr) (b:Bytes) (x:Sc25.Tok×Nat) (t':Toks) (n:Int):Prop :=
 (Ma.qG t'=true->Rz E .full)/\(Ma.qG t'=false->∀ H' y,TokR A H' y x->Kq p sc H H'->Ps K A H' p sc a b t' n->Q (.ref y) H')
theorem qay {H:Hp} {x y C C' dx dy:Addr} {f g:Str} {v u:V} {fs gs:List (Str×V)} (h:H x=some (.ins C dx ((f,v) :: fs))) (h':H y=some (.ins C' dy ((g,u) :: gs))) (n:f≠g):x≠y :=
 ne_of h h' fun z=>by
  injection z with _ _ z
  injection z with z _
  injection z with z _
  exact n z
end
end Pg
namespace Pg
open PySem PySem.Spec PyProof.Rows L2 Xc
open Sc25 (Bytes Toks Bad)
theorem qm0:∀ (f k:Nat) (b:Bytes),Sc25.toksFrom f k b≠[]:=by
 intro f
 induction f with
 | zero=>intro k b q; cases q
 | succ f ih =>
  intro k b
  cases b with
  | nil=>rw [Ma.Ys]; intro q; cases q
  | cons c r =>
   simp only [Sc25.toksFrom]
   split
   ·exact ih _ _
   ·split
    ·exact ih _ _
    ·split
     ·intro q; cases q
     ·split
      ·intro q; cases q
      ·split <;> (intro q; cases q)
theorem TokR.kq {A:Adr} {H H':Hp} {tk y p sc a:Addr} {n:Int} {k:Nat} {x:Sc25.Tok×Nat} (h:TokR A H y x) (hp:PaAt A H p sc tk n) (hs:ScAt A H sc a k) (hk:Kq p sc H H'):TokR A H' y x:=by
 obtain ⟨dx,h⟩:=h
 obtain ⟨dp,hp⟩:=hp
 obtain ⟨ds,hs⟩:=hs
 refine ⟨dx,hk y _ h fun z=>?_⟩
 simp only [List.mem_cons,List.not_mem_nil,or_false] at z
 rcases z with z | z
 ·exact qay h hp (by decide) z
 ·exact qay h hs (by decide) z
theorem qiX {A:Adr} {H:Hp} {tk p sc a:Addr} {n:Int} {k:Nat} (hp:PaAt A H p sc tk n) (hs:ScAt A H sc a k):p≠sc:=by
 obtain ⟨dp,hp⟩:=hp
 obtain ⟨ds,hs⟩:=hs
 exact qay hp hs (by decide)
def qeb (K:PySem.W.Frag) (A:Adr):Sp:=fun vs H Q E=>∃ p sc a b x r n k,vs=[.ref p,.str k]/\Ps K A H p sc a b (x :: r) n/\k ≠ "other" /\ (Ma.kindS x.1≠k->Rz E (.wrong x.2)) /\
 (Ma.kindS x.1=k->x.1=.ended->∀ H' y,Kq p sc H H'->Q (.ref y) H')/\(Ma.kindS x.1=k->x.1≠.ended->Took K A H Q E p sc a b x r n)
def qgR (K:PySem.W.Frag) (A:Adr):Sp:=fun vs H Q E=>∃ p sc a b x r n k,vs=[.ref p,.str k]/\Ps K A H p sc a b (x :: r) n/\k ≠ "other" /\ k ≠ "end" /\ (Ma.kindS x.1≠k->Q (.bl false) H) /\
 (Ma.kindS x.1=k->Took K A H (fun _ H'=>Q (.bl true) H') E p sc a b x r n)
def qnz (K:PySem.W.Frag) (A:Adr):Sp:=fun vs H Q E=>∃ p sc a b x r n k,vs=[.ref p,.str k]/\Ps K A H p sc a b (x :: r) n/\k ≠ "other" /\ k ≠ "end" /\ (Ma.kindS x.1≠k->Rz E (.wrong x.2)) /\
 (Ma.kindS x.1=k->n=32->Rz E .full)/\(Ma.kindS x.1=k->n≠32->Took K A H Q E p sc a b x r (n+1))
def qnM (K:PySem.W.Frag) (A:Adr):Sp:=fun vs H Q E=>∃ p sc a b x r n k,vs=[.ref p,.str k]/\Ps K A H p sc a b (x :: r) n/\k ≠ "other" /\ k ≠ "end" /\ (Ma.kindS x.1≠k->Rz E (.wrong x.2)) /\
 (Ma.kindS x.1=k->Took K A H (fun _ H'=>Q .non H') E p sc a b x r (n-1))
theorem rz1 {C:Addr} {m:Int} {k:Nat} {E:XK} {H:Hp} (h:∀ H',E (.int (m-k) 0) none H'):([V.int (k:Int)]:List V).length<=sizeLine/\∀ e tp,H e=none->H tp=none->tp≠e ->
  qi0 C m (.ref e :: [.int (k:Int)]) (upd (upd H tp (.tup [.int (k:Int)])) e (xO e C tp none)) (fun v H2=>v=.non/\∃ d n,H d=none/\d≠e/\d≠tp/\H2 e=some (xO e C tp (some d))/\H2 d=some (.xd [("number",.int n)])/\∀ H3,E (.int n 0) none H3) E0:=by
 refine ⟨by show 1<=sizeLine; decide,fun e tp he ht hne=>⟨e,tp,k,rfl,upd_same,fun d hd=>?_⟩⟩
 have n1:d≠e:=fun z=>by rw [z,upd_same] at hd; cases hd
 rw [upd_ne n1] at hd
 have n2:d≠tp:=fun z=>by rw [z,upd_same] at hd; cases hd
 rw [upd_ne n2] at hd
 exact ⟨rfl,d,m-k,hd,n1,n2,upd_same,by rw [upd_ne n1,upd_same],h⟩
theorem qmA {K:PySem.W.Frag} {i:Nat} {f:Str}:∀ (σ:L2.St) (H:Hp) (a b:VK),(∀ v H1,a v H1->b v H1)->tFld K (tVar i) f σ H a->tFld K (tVar i) f σ H b:=by
 rintro σ H a b hab ⟨v,h1,x,C,dx,fs,u,h2,h3,h4,h5,h6,h7⟩
 exact ⟨v,h1,x,C,dx,fs,u,h2,h3,h4,h5,h6,hab _ _ h7⟩
section
variable {P:Program} {w:World} {K:PySem.W.Frag} {mg:Str->Option Value} {base:Heap} {A:Adr}
theorem j7 (T:Txt K mg A) (B:Tbl P w K A):Ok P w K mg base (CXr P w K A.qi) 6 A.jA ["self","kind"] (qeb K A):=by
 obtain ⟨fd,F,bi⟩:=T.qed
 obtain ⟨f1,G1,b1⟩:=qkl (P:=P) (w:=w) (base:=base) T B
 obtain ⟨f2,G2,b2⟩:=qgH (P:=P) (w:=w) (base:=base) T
 refine ⟨fd,F.okR qec (fun vs H Q E h=>?_) (fun cdv AA outer s H vs Q E hr h=>?_),bi⟩
 ·obtain ⟨p,sc,a,b,x,r,n,k,rfl,_⟩:=h
  rfl
 ·obtain ⟨p,sc,a,b,x,r,n,k,rfl,S,ko,q1,q2,q3⟩:=h
  have nd:=qec.nd
  have hr3:=hr.mono (show 3<=5 by decide)
  refine ⟨_,pss_cons (ps_set (i:=2) nd rfl (Or.inl rfl) (pe_fld (pv 0) rfl))
   (pss_cons (ps_if (pt_cmpR op_ne (pe_fld (pv 2) rfl) (pv 1) (nomark _)) (pss_one (qiG T.qfz T.qf0 G2 hr3 b2 rfl T.qgq (pe_fld (pv 2) rfl) qmA)) pss_nil)
   (pss_cons (ps_fld (pv 0) (pe_meth0 (pe_fld (pv 0) rfl) T.qD T.Xe G1 hr b1 .nil qw) rfl) (pss_one (ps_ret (pv 2))))),?_⟩
  obtain ⟨tk,j,x',r',hpa,ht,e0,Sc,nx,nl,wf⟩:=S.st
  injection e0 with e0 e0'
  subst e0 e0'
  obtain ⟨dp,hp⟩:=id hpa
  obtain ⟨dt,hdt⟩:=id ht
  refine fl0 rfl hp T.qe T.za rfl ?_
  refine ⟨_,rfl,tk,_,_,_,_,rfl,hdt,T.qy,T.zb,rfl,_,rfl,rfl,_,rfl,ite2 (fun z=>?_) fun z=>?_⟩
  ·have z:Ma.kindS x.1≠k:=fun y=>by rw [y] at z; simp at z
   exact fl0 rfl hdt T.qy T.zO rfl (rz1 (q1 z))
  ·have z:Ma.kindS x.1=k:=by
    apply Classical.byContradiction
    intro y
    exact z (by rw [decide_eq_false (by intro q; injection q with q; exact y q)]; rfl)
   obtain ⟨ds,hs⟩:=id Sc.obj
   have nps:p≠sc:=qiX hpa Sc.obj
   refine ⟨_,rfl,p,_,dp,_,_,rfl,hp,T.qe,T.QX,rfl,sc,ds,_,rfl,hs,rfl,sc,a,b,j,rfl,Sc,?_⟩
   by_cases hx:x.1=.ended
   ·-- behind the end,the end
    have ej:=nx.2 hx
    subst ej
    refine ⟨(.ended,b.length),[],Ma.qjo (Nat.le_refl _),(fun q=>nomatch q),fun _ H1 y j1 t1 t2 t3 t4=>?_⟩
    have hp1:=t2.one hp nps
    refine ⟨_,rfl,p,_,dp,_,rfl,hp1,T.qe,T.za,(by show 3 < 1000; decide),_,rfl,q2 z hx _ _ ?_⟩
    exact (t2.mono (by simp)).trans (Kp.at (by simp))
   ·have hb:x.1≠.bad:=fun q=>by rw [q] at z; exact ko z.symm
    have es:=nx.1 hx hb
    obtain ⟨l1,l2⟩:=q3 z hx
    have wfr:∀ y ∈ r,Ma.Wf y.1:=fun y hy=>by rw [<- es] at hy; exact Ma.qj4 b j y hy
    have ne:r≠[]:=by rw [<- es]; exact qm0 _ _ _
    obtain ⟨x1,r1,e1⟩:∃ x1 r1,r=x1 :: r1:=by
     cases r with
     | nil=>exact absurd rfl ne
     | cons x1 r1=>exact ⟨x1,r1,rfl⟩
    refine ⟨x1,r1,by rw [es,e1],fun q=>?_,fun q H1 y j1 t1 t2 t3 t4=>?_⟩
    ·exact l1 (by rw [e1]; obtain ⟨u,v⟩:=x1; have q:u=.long:=q; subst q; rfl)
    ·have hp1:=t2.one hp nps
     refine ⟨_,rfl,p,_,dp,_,rfl,hp1,T.qe,T.za,(by show 3 < 1000; decide),_,rfl,?_⟩
     have kk:Kq p sc H (upd H1 p (.ins A.qg dp [("scanner",.ref sc),("token",.ref y),("depth",.int n)])):=(t2.mono (by simp)).trans (Kp.at (by simp))
     have hl:Ma.qG r=false:=by rw [e1]; obtain ⟨u,v⟩:=x1; cases u <;> first | rfl | exact absurd rfl q
     obtain ⟨d1,hs1⟩:=id t3.obj
     obtain ⟨dy,hy⟩:=id t1
     have nps1:sc≠p:=fun q=>nps q.symm
     have nyp:y≠p:=qay hy hp1 (by decide)
     refine l2 hl _ _ (ht.kq hpa Sc.obj kk) kk ⟨⟨y,j1,x1,r1,⟨dp,upd_same⟩,⟨dy,by rw [upd_ne nyp]; exact hy⟩,e1,?_,t4,q,wfr x1 (by rw [e1]; simp)⟩,by have:=S.sz; rw [List.length_cons] at this; omega⟩
     refine ⟨⟨d1,by rw [upd_ne nps1]; exact hs1⟩,t3.txt.kp (L:=[p]) (Kp.at (by simp)) (fun x hx=>?_),t3.le,t3.low⟩
     have:x=p:=by simpa using hx
     subst this
     exact ⟨_,_,_,hp1⟩
theorem qhK {x:Sc25.Tok} {k:Str} (z:¬ (!decide (V.str (Ma.kindS x)=V.str k))=true):Ma.kindS x=k:=by
 apply Classical.byContradiction
 intro y
 exact z (by rw [decide_eq_false (by intro q; injection q with q; exact y q)]; rfl)
theorem wN {x:Sc25.Tok} {k:Str} (z:Ma.kindS x=k) (h:k ≠ "end"):x≠.ended:=fun q=>h (by rw [<- z,q]; rfl)
theorem qaq (T:Txt K mg A) (B:Tbl P w K A):Ok P w K mg base (CXr P w K A.qi) 7 A.jf ["self","kind"] (qgR K A):=by
 obtain ⟨fd,F,bi⟩:=T.qck
 obtain ⟨f1,G1,b1⟩:=j7 (P:=P) (w:=w) (base:=base) T B
 refine ⟨fd,F.okR qgO (fun vs H Q E h=>?_) (fun cdv AA outer s H vs Q E hr h=>?_),bi⟩
 ·obtain ⟨p,sc,a,b,x,r,n,k,rfl,_⟩:=h
  rfl
 ·obtain ⟨p,sc,a,b,x,r,n,k,rfl,S,ko,ke,q1,q2⟩:=h
  refine ⟨_,pss_cons (ps_if (pt_cmpR op_ne (pe_fld (pe_fld (pv 0) rfl) rfl) (pv 1) (nomark _)) (pss_one (ps_ret pe_bl)) pss_nil)
   (pss_cons (ps_expr (pe_meth (pv 0) T.qe T.ql G1 hr b1 .nil qw (pa_cons (pv 1) pa_nil))) (pss_one (ps_ret pe_bl))),?_⟩
  obtain ⟨tk,j,x',r',hpa,ht,e0,Sc,nx,nl,wf⟩:=S.st
  injection e0 with e0 e0'
  subst e0 e0'
  obtain ⟨dp,hp⟩:=id hpa
  obtain ⟨dt,hdt⟩:=id ht
  refine ⟨_,rfl,p,_,dp,_,_,rfl,hp,T.qe,T.za,rfl,tk,_,_,_,_,rfl,hdt,T.qy,T.zb,rfl,_,rfl,rfl,_,rfl,ite2 (fun z=>?_) fun z=>?_⟩
  ·exact q1 fun y=>by rw [y] at z; simp at z
  ·have z:=qhK z
   refine me0 rfl hp rfl ⟨_,rfl,p,sc,a,b,x,r,n,k,rfl,S,ko,fun y=>absurd z y,fun _ y=>absurd y (wN z ke),fun _ _=>?_⟩
   exact q2 z
theorem qeZ (T:Txt K mg A) (B:Tbl P w K A):Ok P w K mg base (CXr P w K A.qi) 7 A.jl ["self","kind"] (qnz K A):=by
 obtain ⟨fd,F,bi⟩:=T.qcD
 obtain ⟨f1,G1,b1⟩:=j7 (P:=P) (w:=w) (base:=base) T B
 obtain ⟨f2,G2,b2⟩:=QZ (P:=P) (w:=w) (base:=base) T
 obtain ⟨t1,h1⟩:=T.qiw
 refine ⟨fd,F.okR qhz (fun vs H Q E h=>?_) (fun cdv AA outer s H vs Q E hr h=>?_),bi⟩
 ·obtain ⟨p,sc,a,b,x,r,n,k,rfl,_⟩:=h
  rfl
 ·obtain ⟨p,sc,a,b,x,r,n,k,rfl,S,ko,ke,q1,q2,q3⟩:=h
  have hr3:=hr.mono (show 3<=6 by decide)
  refine ⟨_,pss_cons (ps_if (pw_and (pt_cmpR op_eq (pe_fld (pe_fld (pv 0) rfl) rfl) (pv 1) (nomark _)) (pw_and1 (pt_cmpR op_eq (pe_fld (pv 0) rfl) (pe_glob (by rfl) h1 (relI _ _)) (nomark _)))).pt (pss_one (qaA T.Wa T.Wr G2 hr3 b2 rfl T.J4)) pss_nil)
   (pss_cons (ps_fldaug (pv 0) pe_int in_add) (pss_one (ps_ret (pe_meth (pv 0) T.qe T.ql G1 hr b1 .nil qw (pa_cons (pv 1) pa_nil))))),?_⟩
  obtain ⟨tk,j,x',r',hpa,ht,e0,Sc,nx,nl,wf⟩:=S.st
  injection e0 with e0 e0'
  subst e0 e0'
  obtain ⟨dp,hp⟩:=id hpa
  obtain ⟨dt,hdt⟩:=id ht
  obtain ⟨ds,hs⟩:=id Sc.obj
  have nps:p≠sc:=qiX hpa Sc.obj
  have nps1:sc≠p:=fun q=>nps q.symm
  have ntp:tk≠p:=qay hdt hp (by decide)
  have S1:Ps K A (upd H p (.ins A.qg dp [("scanner",.ref sc),("token",.ref tk),("depth",.int (n+1))])) p sc a b (x :: r) (n+1):=by
   refine ⟨⟨tk,j,x,r,⟨dp,upd_same⟩,⟨dt,by rw [upd_ne ntp]; exact hdt⟩,rfl,⟨⟨ds,by rw [upd_ne nps1]; exact hs⟩,Sc.txt.kp (L:=[p]) (Kp.at (by simp)) (fun y hy=>?_),Sc.le,Sc.low⟩,nx,nl,wf⟩,S.sz⟩
   have:y=p:=by simpa using hy
   subst this
   exact ⟨_,_,_,hp⟩
  have k1:Kq p sc H (upd H p (.ins A.qg dp [("scanner",.ref sc),("token",.ref tk),("depth",.int (n+1))])):=Kp.at (by simp)
  have go:(Ma.kindS x.1=k->n≠32)->tSeq (sFldAug K (tVar 0) (tC (.int 1)) rAdd "depth") (tRet (tMeth A.qg "take" (qeb K A) [] E (tVar 0) (tCons (tVar 1) tNil))) { nx:=fun _ H'=>Q .non H',rt:=Q } [some (.ref p),some (.str k)] H:=fun hn=>by
   refine ⟨_,rfl,p,_,dp,_,_,rfl,hp,T.qe,T.vg,rfl,_,_,rfl,rfl,dp,_,hp,(by show 3 < 1000; decide),?_⟩
   refine me0 rfl upd_same rfl ⟨_,rfl,p,sc,a,b,x,r,n+1,k,rfl,S1,ko,q1,fun z y=>absurd y (wN z ke),fun z _=>?_⟩
   obtain ⟨l1,l2⟩:=q3 z (hn z)
   exact ⟨l1,fun hl H' y t1 t2 t3=>l2 hl H' y t1 (k1.trans t2) t3⟩
  refine ⟨_,rfl,p,_,dp,_,_,rfl,hp,T.qe,T.za,rfl,tk,_,_,_,_,rfl,hdt,T.qy,T.zb,rfl,_,rfl,rfl,_,rfl,ite2 (fun z=>?_) fun z=>?_⟩
  ·have z:Ma.kindS x.1=k:=by have:=of_decide_eq_true z; injection this
   refine ⟨_,rfl,p,_,dp,_,_,rfl,hp,T.qe,T.vg,rfl,rfl,_,rfl,ite2 (fun y=>?_) fun y=>?_⟩
   ·exact raise5 (q2 z (by have:=of_decide_eq_true y; injection this))
   ·exact go fun _ e=>y (by subst e; exact decide_eq_true rfl)
  ·refine iteF ?_
   exact go fun y=>absurd (decide_eq_true (by rw [y])) z
theorem qgX (T:Txt K mg A) (B:Tbl P w K A):Ok P w K mg base (CXr P w K A.qi) 7 A.jm ["self","kind"] (qnM K A):=by
 obtain ⟨fd,F,bi⟩:=T.qcz
 obtain ⟨f1,G1,b1⟩:=j7 (P:=P) (w:=w) (base:=base) T B
 refine ⟨fd,F.okR qhp (fun vs H Q E h=>?_) (fun cdv AA outer s H vs Q E hr h=>?_),bi⟩
 ·obtain ⟨p,sc,a,b,x,r,n,k,rfl,_⟩:=h
  rfl
 ·obtain ⟨p,sc,a,b,x,r,n,k,rfl,S,ko,ke,q1,q3⟩:=h
  refine ⟨_,pss_cons (ps_fldaug (pv 0) pe_int in_sub) (pss_one (ps_expr (pe_meth (pv 0) T.qe T.ql G1 hr b1 .nil qw (pa_cons (pv 1) pa_nil)))),?_⟩
  obtain ⟨tk,j,x',r',hpa,ht,e0,Sc,nx,nl,wf⟩:=S.st
  injection e0 with e0 e0'
  subst e0 e0'
  obtain ⟨dp,hp⟩:=id hpa
  obtain ⟨dt,hdt⟩:=id ht
  obtain ⟨ds,hs⟩:=id Sc.obj
  have nps:p≠sc:=qiX hpa Sc.obj
  have nps1:sc≠p:=fun q=>nps q.symm
  have ntp:tk≠p:=qay hdt hp (by decide)
  have S1:Ps K A (upd H p (.ins A.qg dp [("scanner",.ref sc),("token",.ref tk),("depth",.int (n-1))])) p sc a b (x :: r) (n-1):=by
   refine ⟨⟨tk,j,x,r,⟨dp,upd_same⟩,⟨dt,by rw [upd_ne ntp]; exact hdt⟩,rfl,⟨⟨ds,by rw [upd_ne nps1]; exact hs⟩,Sc.txt.kp (L:=[p]) (Kp.at (by simp)) (fun y hy=>?_),Sc.le,Sc.low⟩,nx,nl,wf⟩,S.sz⟩
   have:y=p:=by simpa using hy
   subst this
   exact ⟨_,_,_,hp⟩
  have k1:Kq p sc H (upd H p (.ins A.qg dp [("scanner",.ref sc),("token",.ref tk),("depth",.int (n-1))])):=Kp.at (by simp)
  refine ⟨_,rfl,p,_,dp,_,_,rfl,hp,T.qe,T.vg,rfl,_,_,rfl,rfl,dp,_,hp,(by show 3 < 1000; decide),?_⟩
  refine me0 rfl upd_same rfl ⟨_,rfl,p,sc,a,b,x,r,n-1,k,rfl,S1,ko,q1,fun z y=>absurd y (wN z ke),fun z _=>?_⟩
  obtain ⟨l1,l2⟩:=q3 z
  exact ⟨l1,fun hl H' y t1 t2 t3=>l2 hl H' y t1 (k1.trans t2) t3⟩
end
end Pg
namespace Pg
open PySem PySem.Spec PyProof.Rows L2 Xc
open Sc25 (Bytes Toks Bad Got Ex)
open Ma (PT)
def Other (o:HO):Prop:=(∀ C dx v fs,o≠.ins C dx (("scanner",v) :: fs))/\∀ C dx v fs,o≠.ins C dx (("text",v) :: fs)
theorem Other.lst (xs:List V):Other (.lst xs):=⟨fun _ _ _ _ q=>(nomatch q),fun _ _ _ _ q=>(nomatch q)⟩
theorem Other.ins {C dx:Addr} {f:Str} {v:V} {fs:List (Str×V)} (h1:f ≠ "scanner") (h2:f ≠ "text"):Other (.ins C dx ((f,v) :: fs)):=by
 refine ⟨fun _ _ _ _ q=>?_,fun _ _ _ _ q=>?_⟩
 ·injection q with _ _ q; injection q with q _; injection q with q _; exact h1 q
 ·injection q with _ _ q; injection q with q _; injection q with q _; exact h2 q
theorem Ps.keep {K:PySem.W.Frag} {A:Adr} {H H':Hp} {p sc a x:Addr} {b:Bytes} {t:Toks} {n:Int} {o:HO} (S:Ps K A H p sc a b t n) (hk:Kq p sc H H') (h:H x=some o) (ho:Other o):H' x=some o:=by
 obtain ⟨tk,k,y,r,⟨dp,hp⟩,_,_,Sc,_⟩:=S.st
 obtain ⟨ds,hs⟩:=Sc.obj
 refine hk x _ h fun z=>?_
 simp only [List.mem_cons,List.not_mem_nil,or_false] at z
 rcases z with rfl | rfl
 ·rw [hp] at h; cases h; exact ho.1 _ _ _ _ rfl
 ·rw [hs] at h; cases h; exact ho.2 _ _ _ _ rfl
def PtR (A:Adr) (H:Hp) (v:V) (t:PT):Prop:=∃ x,v=.ref x/\match t with
 | .nm row p y=>jU A H x (if row=true then "row" else "name") (.str (Ma.sB y)) p
 | .num m=>∃ p,jU A H x "number" (.int (m:Nat)) p
 | .op o p=>jU A H x (Ma.Z8 o) (.str "") p
 | .nt=>∃ p,jU A H x "!" (.str "") p
def Keep (H H':Hp):Prop:=∀ x o,H x=some o->Other o->(∀ xs,o≠.lst xs)->H' x=some o
theorem jU.keep {A:Adr} {H H':Hp} {x:Addr} {k:Str} {v:V} {p:Nat} (h:jU A H x k v p) (hk:Keep H H'):jU A H' x k v p:=by
 obtain ⟨dx,h⟩:=h
 exact ⟨dx,hk x _ h (Other.ins (by decide) (by decide)) fun _ q=>nomatch q⟩
theorem PtR.keep {A:Adr} {H H':Hp} {v:V} {t:PT} (h:PtR A H v t) (hk:Keep H H'):PtR A H' v t:=by
 obtain ⟨x,e,h⟩:=h
 refine ⟨x,e,?_⟩
 cases t with
 | nm row p y=>exact h.keep hk
 | num m=>obtain ⟨p,h⟩:=h; exact ⟨p,h.keep hk⟩
 | op o p=>exact h.keep hk
 | nt=>obtain ⟨p,h⟩:=h; exact ⟨p,h.keep hk⟩
abbrev Pts (A:Adr) (H:Hp):List V->List PT->Prop:=Paired (PtR A H)
theorem Pts.keep {A:Adr} {H H':Hp} {vs:List V} {ts:List PT} (h:Pts A H vs ts) (hk:Keep H H'):Pts A H' vs ts:=Paired.mapP h fun _ _ z=>z.keep hk
theorem Pts.append {A:Adr} {H:Hp}:∀ {vs us:List V} {ts ss:List PT},Pts A H vs ts->Pts A H us ss->Pts A H (vs++us) (ts++ss)
 | _,_,_,_,.nil,s=>s
 | _,_,_,_,.cons r t,s=>.cons r (Pts.append t s)
theorem Ps.keeps {K:PySem.W.Frag} {A:Adr} {H H':Hp} {p sc a:Addr} {b:Bytes} {t:Toks} {n:Int} (S:Ps K A H p sc a b t n) (hk:Kq p sc H H'):Keep H H':=fun x o h ho _=>S.keep hk h ho
def LsR (A:Adr) (H:Hp) (l:Addr) (ts:List PT):Prop:=∃ vs,H l=some (.lst vs)/\Pts A H vs ts
theorem LsR.kq {K:PySem.W.Frag} {A:Adr} {H H':Hp} {p sc a l:Addr} {b:Bytes} {t:Toks} {n:Int} {ts:List PT} (h:LsR A H l ts) (S:Ps K A H p sc a b t n) (hk:Kq p sc H H'):LsR A H' l ts:=by
 obtain ⟨vs,h1,h2⟩:=h
 exact ⟨vs,S.keep hk h1 (Other.lst _),h2.keep (S.keeps hk)⟩
theorem wI {H:Hp} {l:Addr} {xs ys:List V} (h:H l=some (.lst xs)):Keep H (upd H l (.lst ys)):=fun x o q _ no=>by
 have n:x≠l:=fun z=>by rw [z,h] at q; cases q; exact no _ rfl
 rw [upd_ne n]; exact q
theorem UT {H:Hp} {l:Addr} {o':HO} (h:H l=none):Keep H (upd H l o'):=fun x o q _ _=>by rw [upd_ne (ne_of_none q h)]; exact q
theorem Ps.same {K:PySem.W.Frag} {A:Adr} {H H':Hp} {p sc a:Addr} {b:Bytes} {t:Toks} {n:Int} (S:Ps K A H p sc a b t n) (hk:∀ x C dx fs,H x=some (.ins C dx fs)->H' x=some (.ins C dx fs)) (ht:Qk K H a b->Qk K H' a b):Ps K A H' p sc a b t n:=by
 obtain ⟨tk,k,y,r,⟨dp,hp⟩,⟨dt,htk⟩,e,Sc,nx,nl,wf⟩:=S.st
 obtain ⟨ds,hs⟩:=Sc.obj
 exact ⟨⟨tk,k,y,r,⟨dp,hk _ _ _ _ hp⟩,⟨dt,hk _ _ _ _ htk⟩,e,⟨⟨ds,hk _ _ _ _ hs⟩,ht Sc.txt,Sc.le,Sc.low⟩,nx,nl,wf⟩,S.sz⟩
theorem Ps.new {K:PySem.W.Frag} {A:Adr} {H:Hp} {p sc a l:Addr} {b:Bytes} {t:Toks} {n:Int} {o:HO} (S:Ps K A H p sc a b t n) (h:H l=none):Ps K A (upd H l o) p sc a b t n :=
 S.same (fun x C dx fs q=>by rw [upd_ne (ne_of_none q h)]; exact q) fun ht=>ht.kp (L:=[]) (Kp.new h) fun x hx=>nomatch hx
theorem Ps.made {K:PySem.W.Frag} {A:Adr} {H:Hp} {p sc a z dz:Addr} {b:Bytes} {t:Toks} {n:Int} {o0 o:HO} (S:Ps K A H p sc a b t n) (h:H z=none) (h':H dz=none):Ps K A (upd (upd (upd H dz (.own z)) z o0) z o) p sc a b t n :=
 S.same (fun x C dx fs q=>by rw [upd_ne (ne_of_none q h),upd_ne (ne_of_none q h),upd_ne (ne_of_none q h')]; exact q) fun ht=>ht.kp (L:=[]) (Kp.made h h') fun x hx=>nomatch hx
theorem Qj {H:Hp} {z dz:Addr} {o0 o:HO} (h:H z=none) (h':H dz=none):Keep H (upd (upd (upd H dz (.own z)) z o0) z o):=fun x u q _ _=>by
 rw [upd_ne (ne_of_none q h),upd_ne (ne_of_none q h),upd_ne (ne_of_none q h')]; exact q
theorem Ps.nolist {K:PySem.W.Frag} {A:Adr} {H:Hp} {p sc a l:Addr} {b:Bytes} {t:Toks} {n:Int} {xs:List V} (S:Ps K A H p sc a b t n) (h:H l=some (.lst xs)):l≠p/\l≠sc:=by
 obtain ⟨tk,k,y,r,⟨dp,hp⟩,_,_,Sc,_⟩:=S.st
 obtain ⟨ds,hs⟩:=Sc.obj
 exact ⟨ne_of h hp fun q=>(nomatch q),ne_of h hs fun q=>(nomatch q)⟩
theorem Ps.list {K:PySem.W.Frag} {A:Adr} {H:Hp} {p sc a l:Addr} {b:Bytes} {t:Toks} {n:Int} {xs ys:List V} (S:Ps K A H p sc a b t n) (h:H l=some (.lst xs)) (tx:Qk K (upd H l (.lst ys)) a b):Ps K A (upd H l (.lst ys)) p sc a b t n :=
 S.same (fun x C dx fs q=>by rw [upd_ne (ne_of q h fun z=>nomatch z)]; exact q) fun _=>tx
theorem Kp.fresh {L:List Addr} {H H1:Hp} {l:Addr} {o:HO} (k:Kp L H H1) (h:H l=none):Kp L H (upd H1 l o):=fun b u e n=>by rw [upd_ne (ne_of_none e h)]; exact k b u e n
theorem Ps.text {K:PySem.W.Frag} {A:Adr} {H H':Hp} {p sc a:Addr} {b:Bytes} {t:Toks} {n:Int} (S:Ps K A H p sc a b t n) (hk:Kq p sc H H'):Qk K H' a b:=by
 obtain ⟨tk,k,y,r,⟨dp,hp⟩,_,_,Sc,_⟩:=S.st
 obtain ⟨ds,hs⟩:=Sc.obj
 refine Sc.txt.kp hk fun x hx=>?_
 simp only [List.mem_cons,List.not_mem_nil,or_false] at hx
 rcases hx with rfl | rfl
 ·exact ⟨_,_,_,hp⟩
 ·exact ⟨_,_,_,hs⟩
def Vr (d:Nat) (t:Toks):Got Ex:=(Sc25.aName t).bind fun x=>if Sc25.is_ "[" x.2=true then (if d=0 then .error .full else (Ma.E (d-1) 0 (x.2.drop 1)).bind fun i=>(Sc25.take_ "]" i.2).map fun r=>(.at_ x.1.1 x.1.2 i.1,r)) else .ok (.var x.1.1 x.1.2,x.2)
def spX (K:PySem.W.Frag) (A:Adr) (F:Toks->Got Ex) (n:Int):Sp:=fun vs H Q E=>∃ p sc a b t,vs=[.ref p]/\Ps K A H p sc a b t n /\
 Ma.Out (F t) (fun e t'=>∀ H' l,H l=none->Kq p sc H H'->Ps K A H' p sc a b t' n->LsR A H' l (Ma.post e)->Q (.ref l) H') (Rz E)
theorem qiU:Ma.jR "[" := ⟨by decide +kernel,by decide +kernel,by decide +kernel,by decide +kernel⟩
theorem qiW:Ma.jR "]" := ⟨by decide +kernel,by decide +kernel,by decide +kernel,by decide +kernel⟩
theorem qgu:Ma.jR "(" := ⟨by decide +kernel,by decide +kernel,by decide +kernel,by decide +kernel⟩
theorem qcM:Ma.jR ")" := ⟨by decide +kernel,by decide +kernel,by decide +kernel,by decide +kernel⟩
theorem qi8:Ma.jR "!" := ⟨by decide +kernel,by decide +kernel,by decide +kernel,by decide +kernel⟩
theorem wV {α:Type} {x:Sc25.Tok×Nat} {r:Toks} (h:x.1≠.long):(Sc25.fail (x :: r):Sc25.Read α)=.error (.wrong x.2):=by
 obtain ⟨u,v⟩:=x
 cases u <;> first | rfl | exact absurd rfl h
theorem Ps.cons {K:PySem.W.Frag} {A:Adr} {H:Hp} {p sc a:Addr} {b:Bytes} {t:Toks} {n:Int} (S:Ps K A H p sc a b t n):∃ x r,t=x :: r/\x.1≠.long/\Ma.Wf x.1:=by
 obtain ⟨tk,k,y,r,_,_,e,_,_,nl,wf⟩:=S.st
 exact ⟨y,r,e,nl,wf⟩
section
variable {P:Program} {w:World} {K:PySem.W.Frag} {mg:Str->Option Value} {base:Heap} {A:Adr}
theorem Ps.tok {H:Hp} {p sc a:Addr} {b:Bytes} {x:Sc25.Tok×Nat} {r:Toks} {n:Int} (S:Ps K A H p sc a b (x :: r) n):∃ tk dp,∃ dt:Addr×V,H p=some (.ins A.qg dp [("scanner",.ref sc),("token",.ref tk),("depth",.int n)]) /\
  H tk=some (.ins A.qW (dt:Addr×V).1 [("kind",.str (Ma.kindS x.1)),("value",valS x.1),("place",.int x.2),("spelling",dt.2)]):=by
 obtain ⟨tk,j,x',r',⟨dp,hp⟩,⟨dt,hdt⟩,e0,_⟩:=S.st
 injection e0 with e0 e0'
 subst e0 e0'
 exact ⟨tk,dp,dt,hp,hdt⟩
theorem Ps.tokE {H:Hp} {p sc a:Addr} {b:Bytes} {x:Sc25.Tok×Nat} {r:Toks} {n:Int} {G:Prop} (S:Ps K A H p sc a b (x :: r) n) (g:∀ tk dp (dt:Addr×V),H p=some (.ins A.qg dp [("scanner",.ref sc),("token",.ref tk),("depth",.int n)]) ->
  H tk=some (.ins A.qW dt.1 [("kind",.str (Ma.kindS x.1)),("value",valS x.1),("place",.int x.2),("spelling",dt.2)])->G):G :=
 let ⟨tk,dp,dt,hp,hdt⟩:=S.tok; g tk dp dt hp hdt
theorem Ps.obE {H:Hp} {p sc a:Addr} {b:Bytes} {t:Toks} {n:Int} {G:Prop} (S:Ps K A H p sc a b t n) (g:∀ dp tk,H p=some (.ins A.qg dp [("scanner",.ref sc),("token",.ref tk),("depth",.int n)])->G):G :=
 let ⟨tk,_,_,_,⟨dp,hp⟩,_⟩:=S.st; g dp tk hp
theorem qgL (T:Txt K mg A) (B:Tbl P w K A) (d:Nat) (hd:d<=32) (hE:∀ d',d=d' + 1->Ok P w K mg base (CXr P w K A.qi) (11+4 * d') A.qp ["self"] (spX K A (Ma.E d' 0) (32-d'))) :
  Ok P w K mg base (CXr P w K A.qi) (8+4 * d) A.qP ["self"] (spX K A (Vr d) (32-d)):=by
 obtain ⟨fd,F,bi⟩:=T.WR
 obtain ⟨f1,G1,b1⟩:=j7 (P:=P) (w:=w) (base:=base) T B
 obtain ⟨f2,G2,b2⟩:=qeZ (P:=P) (w:=w) (base:=base) T B
 obtain ⟨f3,G3,b3⟩:=qgX (P:=P) (w:=w) (base:=base) T B
 obtain ⟨f4,G4,b4⟩:=Z6 (P:=P) (w:=w) (base:=base) T
 obtain ⟨sp5,f5,G5,b5,h5⟩:∃ (sp5:Sp) (f5:FuncData),FnOk P w K mg base (CXr P w K A.qi) (7+4 * d) A.qp f5 ["self"] sp5/\L2.Binds K f5 ["self"] []/\(d≠0->sp5=spX K A (Ma.E (d-1) 0) (32-(d-1:Nat))):=by
  cases d with
  | zero =>
   obtain ⟨f5,F5,b5⟩:=T.wA
   exact ⟨fun _ _ _ _=>False,f5,⟨fun _ _ _ _ h=>h.elim,fun _ _ _ _ _ _ _ _ _ _ _ _ _ h=>h.elim⟩,b5,fun h=>absurd rfl h⟩
  | succ d =>
   obtain ⟨f5,G5,b5⟩:=hE d rfl
   exact ⟨_,f5,G5.mono (by omega),b5,fun _=>rfl⟩
 refine ⟨fd,(F.okR (k:=7+4 * d) WX (fun vs H Q E h=>?_) (fun cdv AA outer s H vs Q E hr h=>?_)).mono (Nat.le_of_eq (by omega)),bi⟩
 ·obtain ⟨p,sc,a,b,t,rfl,_⟩:=h
  rfl
 ·obtain ⟨p,sc,a,b,t,rfl,S,o⟩:=h
  have nd:=WX.nd
  have hr6:=hr.mono (show 6<=7+4 * d by omega)
  have hr7:=hr.mono (show 7<=7+4 * d by omega)
  have hr2:=hr.mono (show 2<=7+4 * d by omega)
  refine ⟨_,pss_cons (ps_set (i:=1) nd rfl (Or.inl rfl) (pe_meth (pv 0) T.qe T.ql G1 hr6 b1 .nil qw (pa_cons pe_str pa_nil)))
   (pss_cons (ps_if (pt_cmpR op_ne (pe_fld (pe_fld (pv 0) rfl) rfl) pe_str (nomark _)) (pss_one (ps_ret (pe_lst (pa_cons (pv 1) pa_nil)))) pss_nil)
   (pss_cons (ps_expr (pe_meth (pv 0) T.qe T.Ql G2 hr7 b2 .nil qw (pa_cons pe_str pa_nil)))
   (pss_cons (ps_set (i:=2) nd rfl (Or.inl rfl) (pe_meth0 (pv 0) T.qe T.zQ G5 hr b5 .nil qw))
   (pss_cons (ps_expr (pe_meth (pv 0) T.qe T.JF G3 hr7 b3 .nil qw (pa_cons pe_str pa_nil)))
   (pss_cons (ps_expr (pe_bm PySem.F.plainAttrs_list PySem.F.slot_list_append PySem.F.type_list_append mt_append (pv 2) (pa_cons (pe_make T.qaj G4 hr2 rfl T.X8 b4 .nil pass0 (pa_cons pe_str (pa_cons (pe_fld (pv 1) rfl) (pa_cons (pe_fld (pv 1) rfl) (pa_cons (pe_fld (pv 1) rfl) pa_nil))))) pa_nil)))
   (pss_one (ps_ret (pv 2)))))))),?_⟩
  obtain ⟨x,r,rfl,nl,wf⟩:=S.cons
  obtain ⟨tk,j,x',r',⟨dp,hp⟩,ht,e0,Sc,nx,_,_⟩:=S.st
  injection e0 with e0 e0'
  subst e0 e0'
  unfold Vr at o
  refine me0 rfl hp rfl ⟨p,sc,a,b,x,r,_,"name",rfl,S,by decide,fun z=>?_,fun z y=>absurd y (wN z (by decide)),fun z _=>?_⟩
  ·rw [(Ma.Uo wf).2 z,wV nl] at o
   exact o
  obtain ⟨wd,ex,en⟩:=(Ma.Uo (p:=x.2) (r:=r) wf).1 z
  have en:Sc25.aName (x :: r)=.ok ((x.2,wd),r):=en
  rw [en] at o
  have o:Ma.Out (if Sc25.is_ "[" r=true then (if d=0 then .error .full else (Ma.E (d-1) 0 (r.drop 1)).bind fun i=>(Sc25.take_ "]" i.2).map fun r=>(Ex.at_ x.2 wd i.1,r)) else .ok (.var x.2 wd,r)) _ _:=o
  refine ⟨fun hl=>?_,fun hl H1 y ty k1 S1=>?_⟩
  ·rw [Ma.jW hl] at o
   exact o.lg (Ma.Lg.ok hl)
  obtain ⟨x1,r1,rfl,nl1,wf1⟩:=S1.cons
  have tyn:jU A H1 y "name" (.str (Ma.sB wd)) x.2:=by
   have:=ty
   unfold TokR at this
   rw [z,ex] at this
   exact this
  refine S1.tokE fun tk1 dp1 dt1 hp1 hdt1=>?_
  refine ⟨_,rfl,p,_,dp1,_,_,rfl,hp1,T.qe,T.za,rfl,tk1,_,_,_,_,rfl,hdt1,T.qy,T.zb,rfl,rfl,_,rfl,ite2 (fun z1=>?_) fun z1=>?_⟩
  ·have z1:Ma.kindS x1.1 ≠ "[" := fun q=>by rw [q] at z1; exact absurd z1 (by decide)
   obtain ⟨u1,v1⟩:=x1
   rw [qiU.is,decide_eq_false z1] at o
   refine ⟨_,rfl,(by show 1<=sizeLine; decide),fun l hl2=>?_⟩
   have kk:Kq p sc H1 (upd H1 l (.lst [.ref y])):=Kp.new hl2
   refine (o.ok hl) _ l (k1.free hl2 (by
    obtain ⟨tk1,k1',y1,r1',⟨dp1,hp1⟩,_,_,Sc1,_⟩:=S1.st
    obtain ⟨ds1,hs1⟩:=Sc1.obj
    simp only [List.mem_cons,List.not_mem_nil,or_false]
    rintro (q | q)
    ·rw [q,hp1] at hl2; cases hl2
    ·rw [q,hs1] at hl2; cases hl2)) (k1.trans kk) (S1.new hl2) ⟨_,upd_same,.cons ⟨y,rfl,tyn.keep (UT hl2)⟩ .nil⟩
  ·have z1:Ma.kindS x1.1 = "[" := qhK z1
   have hi:Sc25.is_ "[" (x1 :: r1)=true:=by obtain ⟨u1,v1⟩:=x1; rw [qiU.is]; exact decide_eq_true z1
   rw [hi] at o
   simp only [if_true] at o
   refine ⟨_,rfl,p,dp1,_,rfl,hp1,rfl,p,sc,a,b,x1,r1,_,"[",rfl,S1,by decide,by decide,fun q=>absurd z1 q,fun _ hn=>?_,fun _ hn=>?_⟩
   ·have:d=0:=by omega
    subst this
    exact o
   have d0:d≠0:=fun q=>hn (by subst q; rfl)
   rw [if_neg d0] at o
   have o:Ma.Out ((Ma.E (d-1) 0 r1).bind fun i=>(Sc25.take_ "]" i.2).map fun r=>(Ex.at_ x.2 wd i.1,r)) _ _:=o
   refine ⟨fun hl1=>?_,fun hl1 H2 y2 ty2 k2 S2=>?_⟩
   ·rw [Ma.qjd hl1] at o
    exact o
   have en2:((32:Int)-d+1)=32-((d-1:Nat):Int):=by omega
   rw [en2] at S2
   refine S2.obE fun dp2 tk2 hp2=>?_
   refine me0 rfl hp2 rfl ?_
   rw [h5 d0]
   refine ⟨p,sc,a,b,r1,rfl,S2,(o.bind fun i t hl=>?_).imp (fun i t3 eE hl3 o3 H3 l fl k3 S3 ls=>?_) fun _ z=>z⟩
   ·show Ma.Lg ((Sc25.take_ "]" t).map _)
    rw [Ma.jN hl]
    exact .err
   have o3:Ma.Out ((Sc25.take_ "]" t3).map fun r=>(Ex.at_ x.2 wd i,r)) _ _:=o3
   obtain ⟨x3,r3,rfl,nl3,wf3⟩:=S3.cons
   refine S3.obE fun dp3 tk3 hp3=>?_
   refine ⟨_,rfl,p,dp3,_,rfl,hp3,rfl,p,sc,a,b,x3,r3,_,"]",rfl,S3,by decide,by decide,fun q=>?_,fun q=>?_⟩
   ·have:Sc25.take_ "]" (x3 :: r3)=.error (.wrong x3.2):=by
     unfold Sc25.take_
     obtain ⟨u3,v3⟩:=x3
     rw [qiW.is,decide_eq_false q,if_neg (by decide)]
     exact wV nl3
    rw [this] at o3
    exact o3
   have e3:Sc25.take_ "]" (x3 :: r3)=.ok r3:=by
    unfold Sc25.take_
    obtain ⟨u3,v3⟩:=x3
    rw [qiW.is,decide_eq_true q,if_pos rfl]
    rfl
   rw [e3] at o3
   have o3:Ma.Out (.ok (Ex.at_ x.2 wd i,r3)) _ _:=o3
   refine ⟨fun hl4=>o3.lg (Ma.Lg.ok hl4),fun hl4 H4 y4 ty4 k4 S4=>?_⟩
   have en4:(32-((d-1:Nat):Int)-1)=(32:Int)-d:=by omega
   rw [en4] at S4
   obtain ⟨vs,hv,pts⟩:=ls.kq S3 k4
   have lv:vs.length<=70000:=by
    have h1:=Paired.length pts
    have h2:=Ma.qlm eE
    have h3:=S2.sz
    rw [h1]
    show (Ma.post i).length<=_
    have h2:(Ma.post i).length+_<=_:=h2
    omega
   have tyk:jU A H4 y "name" (.str (Ma.sB wd)) x.2:=((tyn.keep (S1.keeps k2)).keep (S2.keeps k3)).keep (S3.keeps k4)
   obtain ⟨dy,hy⟩:=id tyk
   refine ⟨_,rfl,.inl ⟨rfl,_,SqL.of hv⟩,_,rfl,y,_,_,_,_,rfl,hy,T.qy,T.zV,rfl,_,rfl,y,_,_,_,_,rfl,hy,T.qy,T.zO,rfl,_,rfl,y,_,_,_,_,rfl,hy,T.qy,T.Vn,rfl,fun z5 dz nz ndz nez=>⟨z5,dz,_,rfl,rfl,upd_same,rfl,?_⟩⟩
   have nlz:l≠z5:=ne_of_none hv nz
   have nld:l≠dz:=ne_of_none hv ndz
   refine ⟨l,vs,_,rfl,rfl,(by rw [upd_ne nlz,upd_ne nlz,upd_ne nld]; exact hv),Nat.lt_of_le_of_lt lv (by decide),?_⟩
   refine ⟨_,rfl,?_⟩
   have nz5:H4 z5=none:=nz
   have K1:Kq p sc H4 (upd (upd (upd H4 dz (.own z5)) z5 (.ins A.qW dz [])) z5 (.ins A.qW dz [("kind",.str "row"),("value",.str (Ma.sB wd)),("place",.int x.2),("spelling",dy.2)])):=Kp.made nz ndz
   have hv1:(upd (upd (upd H4 dz (.own z5)) z5 (.ins A.qW dz [])) z5 (.ins A.qW dz [("kind",.str "row"),("value",.str (Ma.sB wd)),("place",.int x.2),("spelling",dy.2)])) l=some (.lst vs):=by rw [upd_ne nlz,upd_ne nlz,upd_ne nld]; exact hv
   have S5:=S4.made (z:=z5) (dz:=dz) (o0:=.ins A.qW dz []) (o:=.ins A.qW dz [("kind",.str "row"),("value",.str (Ma.sB wd)),("place",.int x.2),("spelling",dy.2)]) nz ndz
   have nps:l≠p/\l≠sc:=S4.nolist hv
   have fl0:H l=none:=(k1.trans k2).free fl (by simp only [List.mem_cons,List.not_mem_nil,or_false]; exact fun q=>q.elim nps.1 nps.2)
   have K2:Kq p sc H (upd _ l (.lst (vs++[.ref z5]))):=((((k1.trans k2).trans k3).trans k4).trans K1).fresh (o:=.lst (vs++[.ref z5])) fl0
   have S6:=S5.list hv1 (ys:=vs++[.ref z5]) (S.text K2)
   refine (o3.ok hl4) _ l fl0 K2 S6 ⟨_,upd_same,?_⟩
   refine Pts.append ((pts.keep (Qj nz ndz)).keep (wI hv1)) (.cons ⟨z5,rfl,?_⟩ .nil)
   exact jU.keep ⟨(dz,dy.2),upd_same⟩ (wI hv1)
end
end Pg
namespace Pg
open PySem PySem.Spec PyProof.Rows L2 Xc
open Sc25 (Bytes Toks Bad Got Ex)
open Ma (PT)
def Pp (d:Nat) (t:Toks):Got Ex:=match t with
 | (.num m,_) :: r=>.ok (.num m,r)
 | t=>if Sc25.is_ "(" t=true then (if d=0 then .error .full else (Ma.E (d-1) 0 (t.drop 1)).bind fun x=>(Sc25.take_ ")" x.2).map fun r=>(x.1,r)) else Vr d t
theorem qlx {d m p:Nat} {r:Toks}:Pp d ((.num m,p) :: r)=.ok (.num m,r):=rfl
theorem qkz {d:Nat} {t:Toks} (hn:∀ m p r,t≠(.num m,p) :: r):Pp d t=if Sc25.is_ "(" t=true then (if d=0 then .error .full else (Ma.E (d-1) 0 (t.drop 1)).bind fun x=>(Sc25.take_ ")" x.2).map fun r=>(x.1,r)) else Vr d t:=by
 unfold Pp
 split
 ·rename_i m p r
  exact absurd rfl (hn m p r)
 ·rfl
theorem qoz {d:Nat} {t:Toks} (h:Sc25.is_ "!" t=false):Ma.Pt d t=Pp d t:=by
 by_cases hn:∀ m p r,t≠(.num m,p) :: r
 ·rw [qkz hn,Ma.P_eq hn,h]
  rfl
 ·simp only [Classical.not_forall,Classical.not_not] at hn
  obtain ⟨m,p,r,rfl⟩:=hn
  rw [Ma.qot,qlx]
theorem qh1 {s:String} {x:Sc25.Tok×Nat} {r:Toks} (h:Ma.jR s) (nl:x.1≠.long) (q:Ma.kindS x.1≠(s:Str)):Sc25.take_ s (x :: r)=.error (.wrong x.2):=by
 unfold Sc25.take_
 obtain ⟨u,v⟩:=x
 rw [h.is,decide_eq_false q,if_neg (by decide)]
 exact wV nl
theorem qg6 {s:String} {x:Sc25.Tok×Nat} {r:Toks} (h:Ma.jR s) (q:Ma.kindS x.1=(s:Str)):Sc25.take_ s (x :: r)=.ok r:=by
 unfold Sc25.take_
 obtain ⟨u,v⟩:=x
 rw [h.is,decide_eq_true q,if_pos rfl]
 rfl
theorem Qi {s:String} {x:Sc25.Tok×Nat} {r:Toks} (h:Ma.jR s) (q:Ma.kindS x.1≠(s:Str)):Sc25.is_ s (x :: r)=false:=by
 obtain ⟨u,v⟩:=x
 rw [h.is,decide_eq_false q]
theorem Z5 {s:String} {x:Sc25.Tok×Nat} {r:Toks} (h:Ma.jR s) (q:Ma.kindS x.1=(s:Str)):Sc25.is_ s (x :: r)=true:=by
 obtain ⟨u,v⟩:=x
 rw [h.is,decide_eq_true q]
theorem Ja {x:Sc25.Tok} {k:Str} (z:decide (V.str (Ma.kindS x)=V.str k)=true):Ma.kindS x=k:=by have:=of_decide_eq_true z; injection this
theorem Jc {x:Sc25.Tok} {k:Str} (z:¬ decide (V.str (Ma.kindS x)=V.str k)=true):Ma.kindS x≠k:=fun q=>z (by rw [q]; exact decide_eq_true rfl)
section
variable {P:Program} {w:World} {K:PySem.W.Frag} {mg:Str->Option Value} {base:Heap} {A:Adr}
theorem Ps.notps {H:Hp} {p sc a l:Addr} {b:Bytes} {t:Toks} {n:Int} (S:Ps K A H p sc a b t n) (h:H l=none):l ∉ [p,sc]:=by
 obtain ⟨tk,k,y,r,⟨dp,hp⟩,_,_,Sc,_⟩:=S.st
 obtain ⟨ds,hs⟩:=Sc.obj
 simp only [List.mem_cons,List.not_mem_nil,or_false]
 rintro (q | q)
 ·rw [q,hp] at h; cases h
 ·rw [q,hs] at h; cases h
theorem ql9 (T:Txt K mg A) (B:Tbl P w K A) {fd:FuncData} (F:Fun K "read_plain_operand" "Parser.read_plain_operand" j6 A.qu fd) (d:Nat) (hd:d<=32) (hE:∀ d',d=d' + 1->Ok P w K mg base (CXr P w K A.qi) (11+4 * d') A.qp ["self"] (spX K A (Ma.E d' 0) (32-d'))) :
  FnOk P w K mg base (CXr P w K A.qi) (9+4 * d) A.qu fd ["self"] (spX K A (Pp d) (32-d)):=by
 obtain ⟨f1,G1,b1⟩:=j7 (P:=P) (w:=w) (base:=base) T B
 obtain ⟨f2,G2,b2⟩:=qeZ (P:=P) (w:=w) (base:=base) T B
 obtain ⟨f3,G3,b3⟩:=qgX (P:=P) (w:=w) (base:=base) T B
 obtain ⟨f4,G4,b4⟩:=qgL (P:=P) (w:=w) (base:=base) T B d hd hE
 obtain ⟨sp5,f5,G5,b5,h5⟩:∃ (sp5:Sp) (f5:FuncData),FnOk P w K mg base (CXr P w K A.qi) (8+4 * d) A.qp f5 ["self"] sp5/\L2.Binds K f5 ["self"] []/\(d≠0->sp5=spX K A (Ma.E (d-1) 0) (32-(d-1:Nat))):=by
  cases d with
  | zero =>
   obtain ⟨f5,F5,b5⟩:=T.wA
   exact ⟨fun _ _ _ _=>False,f5,⟨fun _ _ _ _ h=>h.elim,fun _ _ _ _ _ _ _ _ _ _ _ _ _ h=>h.elim⟩,b5,fun h=>absurd rfl h⟩
  | succ d =>
   obtain ⟨f5,G5,b5⟩:=hE d rfl
   exact ⟨_,f5,G5.mono (by omega),b5,fun _=>rfl⟩
 refine (F.okR (k:=8+4 * d) Zv (fun vs H Q E h=>?_) (fun cdv AA outer s H vs Q E hr h=>?_)).mono (Nat.le_of_eq (by omega))
 ·obtain ⟨p,sc,a,b,t,rfl,_⟩:=h
  rfl
 ·obtain ⟨p,sc,a,b,t,rfl,S,o⟩:=h
  have nd:=Zv.nd
  have hr6:=hr.mono (show 6<=8+4 * d by omega)
  have hr7:=hr.mono (show 7<=8+4 * d by omega)
  refine ⟨_,pss_cons (ps_if (pt_cmpR op_eq (pe_fld (pe_fld (pv 0) rfl) rfl) pe_str (nomark _)) (pss_one (ps_ret (pe_meth0 (pv 0) T.qe T.wM G4 hr b4 .nil qw))) pss_nil)
   (pss_cons (ps_if (pt_cmpR op_eq (pe_fld (pe_fld (pv 0) rfl) rfl) pe_str (nomark _)) (pss_one (ps_ret (pe_lst (pa_cons (pe_meth (pv 0) T.qe T.ql G1 hr6 b1 .nil qw (pa_cons pe_str pa_nil)) pa_nil)))) pss_nil)
   (pss_cons (ps_expr (pe_meth (pv 0) T.qe T.Ql G2 hr7 b2 .nil qw (pa_cons pe_str pa_nil)))
   (pss_cons (ps_set (i:=1) nd rfl (Or.inl rfl) (pe_meth0 (pv 0) T.qe T.zQ G5 hr b5 .nil qw))
   (pss_cons (ps_expr (pe_meth (pv 0) T.qe T.JF G3 hr7 b3 .nil qw (pa_cons pe_str pa_nil)))
   (pss_one (ps_ret (pv 1))))))),?_⟩
  obtain ⟨x,r,rfl,nl,wf⟩:=S.cons
  refine S.tokE fun tk dp dt hp hdt=>?_
  refine ⟨_,rfl,p,_,dp,_,_,rfl,hp,T.qe,T.za,rfl,tk,_,_,_,_,rfl,hdt,T.qy,T.zb,rfl,rfl,_,rfl,ite2 (fun z=>?_) fun z=>?_⟩
  ·-- a variable
   have z:=Ja z
   obtain ⟨wd,ex,_⟩:=(Ma.Uo (p:=x.2) (r:=r) wf).1 z
   rw [qkz (by intro m p' r' q; injection q with q _; rw [q] at ex; cases ex),Qi qgu (by rw [z]; decide)] at o
   exact me0 rfl hp rfl ⟨p,sc,a,b,x :: r,rfl,S,o⟩
  have z:=Jc z
  refine ⟨_,rfl,p,_,dp,_,_,rfl,hp,T.qe,T.za,rfl,tk,_,_,_,_,rfl,hdt,T.qy,T.zb,rfl,rfl,_,rfl,ite2 (fun z1=>?_) fun z1=>?_⟩
  ·-- a number
   have z1:=Ja z1
   obtain ⟨m,ex⟩:=(Ma.qjv wf).mp z1
   obtain ⟨u,v⟩:=x
   have ex:u=.num m:=ex
   subst ex
   rw [qlx] at o
   refine me0 rfl hp rfl ⟨p,sc,a,b,(.num m,v),r,_,"number",rfl,S,by decide,fun q=>absurd z1 q,fun _ y=>(nomatch y),fun _ _=>⟨fun hl=>o.lg (Ma.Lg.ok hl),fun hl H1 y ty k1 S1=>?_⟩⟩
   refine ⟨(by show 1<=sizeLine; decide),fun l hl2=>?_⟩
   have kk:Kq p sc H1 (upd H1 l (.lst [.ref y])):=Kp.new hl2
   have ty:jU A H1 y "number" (.int (m:Nat)) v:=ty
   exact (o.ok hl) _ l (k1.free hl2 (S1.notps hl2)) (k1.trans kk) (S1.new hl2) ⟨_,upd_same,.cons ⟨y,rfl,v,ty.keep (UT hl2)⟩ .nil⟩
  have z1:=Jc z1
  have hn:∀ m p' r',x :: r≠(.num m,p') :: r':=fun m p' r' q=>by
   injection q with q _
   exact z1 (by rw [q]; rfl)
  rw [qkz hn] at o
  refine ⟨_,rfl,p,dp,_,rfl,hp,rfl,p,sc,a,b,x,r,_,"(",rfl,S,by decide,by decide,fun q=>?_,fun q hn2=>?_,fun q hn2=>?_⟩
  ·rw [Qi qgu q] at o
   unfold Vr at o
   rw [(Ma.Uo wf).2 z,wV nl] at o
   exact o
  ·rw [Z5 qgu q] at o
   have:d=0:=by omega
   subst this
   exact o
  have d0:d≠0:=fun y=>hn2 (by subst y; rfl)
  rw [Z5 qgu q] at o
  simp only [if_true] at o
  rw [if_neg d0] at o
  have o:Ma.Out ((Ma.E (d-1) 0 r).bind fun x=>(Sc25.take_ ")" x.2).map fun r=>(x.1,r)) _ _:=o
  refine ⟨fun hl1=>?_,fun hl1 H2 y2 ty2 k2 S2=>?_⟩
  ·rw [Ma.qjd hl1] at o
   exact o
  have en2:((32:Int)-d+1)=32-((d-1:Nat):Int):=by omega
  rw [en2] at S2
  refine S2.obE fun dp2 tk2 hp2=>?_
  refine me0 rfl hp2 rfl ?_
  rw [h5 d0]
  refine ⟨p,sc,a,b,r,rfl,S2,(o.bind fun i t hl=>?_).imp (fun i t3 eE hl3 o3 H3 l fl k3 S3 ls=>?_) fun _ z=>z⟩
  ·show Ma.Lg ((Sc25.take_ ")" t).map _)
   rw [Ma.jN hl]
   exact .err
  have o3:Ma.Out ((Sc25.take_ ")" t3).map fun r=>(i,r)) _ _:=o3
  obtain ⟨x3,r3,rfl,nl3,wf3⟩:=S3.cons
  refine S3.tokE fun tk3 dp3 dt3 hp3 _=>?_
  refine ⟨_,rfl,p,dp3,_,rfl,hp3,rfl,p,sc,a,b,x3,r3,_,")",rfl,S3,by decide,by decide,fun q3=>?_,fun q3=>?_⟩
  ·rw [qh1 qcM nl3 q3] at o3
   exact o3
  rw [qg6 qcM q3] at o3
  have o3:Ma.Out (.ok (i,r3)) _ _:=o3
  refine ⟨fun hl4=>o3.lg (Ma.Lg.ok hl4),fun hl4 H4 y4 ty4 k4 S4=>?_⟩
  have en4:(32-((d-1:Nat):Int)-1)=(32:Int)-d:=by omega
  rw [en4] at S4
  refine ⟨_,rfl,(o3.ok hl4) H4 l (k2.free fl ?_) ((k2.trans k3).trans k4) S4 (ls.kq S3 k4)⟩
  exact S2.notps fl
end
end Pg
namespace Pg
open PySem PySem.Spec PyProof.Rows L2 Xc
open Sc25 (Bytes Toks Bad Got Ex Op)
open Ma (PT Stk)
def opsL (st:Stk):List PT:=(st.map fun x=>PT.op x.1 x.2.1).reverse
theorem qfA (x:Op×Nat×Ex) (st:Stk):opsL (x :: st)=opsL st++[.op x.1 x.2.1]:=by unfold opsL; rw [List.map_cons,List.reverse_cons]
def ahead:Stk->List PT
 | []=>[]
 | (o,p,a) :: st=>ahead st++Ma.post a
def pops (s:Nat):Stk->Ex->Stk×Ex
 | [],e=>([],e)
 | (o,p,a) :: st,e=>if s<=Sc25.level o then pops s st (.bin p o a e) else ((o,p,a) :: st,e)
theorem Pts.snoc {A:Adr} {H:Hp}:∀ {vs:List V} {ts:List PT} {t:PT},Pts A H vs (ts++[t])->∃ ys y,vs=ys++[y]/\Pts A H ys ts/\PtR A H y t
 | _,[],t,.cons r .nil=>⟨[],_,rfl,.nil,r⟩
 | _,u :: ts,t,.cons r q=>by
  obtain ⟨ys,y,e,q1,q2⟩:=Pts.snoc (ts:=ts) q
  exact ⟨_ :: ys,y,by rw [e]; rfl,.cons r q1,q2⟩
theorem qj8 (o:Op):valV strT (.inr (Ma.Z8 o))=some (.int ((Sc25.level o:Int)+1)):=by cases o <;> decide +kernel
def qlq (A:Adr):Sp:=fun vs H Q _=>∃ wl fl wv fv s st e,vs=[.ref wl,.ref fl,.int (s:Nat)]/\wl≠fl/\H wl=some (.lst wv)/\H fl=some (.lst fv)/\Pts A H wv (opsL st)/\Pts A H fv (ahead st++Ma.post e)/\wv.length+fv.length<=200000 /\
 ∀ H' wv' fv',Kp [wl,fl] H H'->H' wl=some (.lst wv')->H' fl=some (.lst fv')->Pts A H' wv' (opsL (pops (s-1) st e).1)->Pts A H' fv' (ahead (pops (s-1) st e).1++Ma.post (pops (s-1) st e).2)->wv'.length+fv'.length=wv.length+fv.length->Q .non H'
theorem atI_last {ys:List V} {y:V}:atI (ys++[y]) (-1)=some y:=by
 unfold atI
 simp [seqIndex?,ixN]
 rw [if_pos (by omega)]
 show (ys++[y])[(-1+((ys.length:Int)+1)).toNat]?=some y
 rw [show (-1+((ys.length:Int)+1)).toNat=ys.length by omega]
 simp
section
variable {P:Program} {w:World} {K:PySem.W.Frag} {mg:Str->Option Value} {base:Heap} {A:Adr}
theorem qkr (T:Txt K mg A) (B:Tbl P w K A):Ok P w K mg base CX0 1 A.wu ["waiting","found","strength"] (qlq A):=by
 obtain ⟨fd,F,bi⟩:=T.qek
 refine ⟨fd,F.ok qkF (fun vs H Q E h=>?_) (fun cdv AA outer s H vs Q E hr h=>?_),bi⟩
 ·obtain ⟨wl,fl,wv,fv,s,st,e,rfl,_⟩:=h
  rfl
 ·obtain ⟨wl,fl,wv,fv,s,st,e,rfl,nwf,hw,hf,pw,pf,lz,q⟩:=h
  refine ⟨_,pss_one (ps_while PassesOwn.never (pw_and (pt_cmpR op_gt (pe_callB call_len_seq (by rfl) T.Ke PySem.boot_len (pa_cons (pv 0) pa_nil)) pe_int (nomark _))
   (pw_and1 (pt_cmpR op_ge (qhX B.strn (pe_glob (by rfl) T.GD (by rfl)) (pe_fld (pe_ix ix_list (pv 0) (pe_un un_neg pe_int) (fun _ _=>rfl)) rfl) (fun _ _=>rfl)) (pv 2) (nomark _)))).pt
   (pss_one (ps_expr (pe_bm PySem.F.plainAttrs_list PySem.F.slot_list_append PySem.F.type_list_append mt_append (pv 1) (pa_cons (pe_bm0 PySem.F.plainAttrs_list PySem.F.slot_list_pop PySem.F.type_list_pop mt_pop (pv 0)) pa_nil))))),?_⟩
  refine ⟨fun m σ H'=>∃ st1 e1 wv1 fv1,σ=[some (.ref wl),some (.ref fl),some (.int (s:Nat))]/\Kp [wl,fl] H H'/\H' wl=some (.lst wv1)/\H' fl=some (.lst fv1)/\Pts A H' wv1 (opsL st1)/\Pts A H' fv1 (ahead st1++Ma.post e1)/\wv1.length+fv1.length=wv.length+fv.length /\
   pops (s-1) st1 e1=pops (s-1) st e/\m=st1.length,⟨_,st,e,wv,fv,rfl,Kp.refl _ _,hw,hf,pw,pf,rfl,rfl,rfl⟩,?_⟩
  rintro m σ H1 ⟨st1,e1,wv1,fv1,rfl,k1,hw1,hf1,pw1,pf1,lz1,ep,rfl⟩
  refine ⟨_,rfl,wl,_,rfl,.inl (SqL.of hw1),_,_,rfl,rfl,_,rfl,?_⟩
  have lw1:wv1.length=st1.length:=by rw [Paired.length pw1]; unfold opsL; simp
  cases st1 with
  | nil =>
   have:wv1=[]:=List.length_eq_zero_iff.mp lw1
   subst this
   refine iteF (iteF ?_)
   refine q H1 _ _ k1 hw1 hf1 ?_ ?_ lz1
   ·rw [<- ep]; exact pw1
   ·rw [<- ep]; exact pf1
  | cons y st2 =>
   obtain ⟨o,p,a⟩:=y
   rw [qfA] at pw1
   obtain ⟨ys,y,ey,py,po⟩:=Pts.snoc pw1
   subst ey
   have gt:decide ((0:Int) < ((ys++[y]).length:Int))=true:=decide_eq_true (by simp)
   rw [gt]
   obtain ⟨tk,rfl,dt,ht⟩:=po
   refine iteT ⟨_,rfl,1,rfl,wl,_,_,_,rfl,rfl,SqL.of hw1,atI_last,tk,_,_,_,_,rfl,ht,T.qy,T.zb,rfl,.inr (Ma.Z8 o),_,rfl,qj8 o,_,rfl,_,_,rfl,rfl,_,rfl,ite2 (fun z=>?_) fun z=>?_⟩
   ·have z:s-1<=Sc25.level o:=by have:=of_decide_eq_true z; omega
    refine ⟨fun σ' H'=>∃ m',m' < ((o,p,a) :: st2).length/\∃ st1 e1 wv1 fv1,σ'=[some (.ref wl),some (.ref fl),some (.int (s:Nat))]/\Kp [wl,fl] H H'/\H' wl=some (.lst wv1)/\H' fl=some (.lst fv1)/\Pts A H' wv1 (opsL st1)/\Pts A H' fv1 (ahead st1++Ma.post e1)/\wv1.length+fv1.length=wv.length+fv.length /\
     pops (s-1) st1 e1=pops (s-1) st e/\m'=st1.length,fun _ _ z=>z,?_⟩
    refine ⟨_,rfl,.inl ⟨rfl,_,SqL.of hf1⟩,_,rfl,.inl ⟨rfl,_,SqL.of hw1⟩,wl,_,.ref tk,rfl,rfl,hw1,by simp,?_⟩
    rw [show (ys++[V.ref tk]).dropLast=ys from List.dropLast_concat]
    have hf2:(upd H1 wl (.lst ys)) fl=some (.lst fv1):=by rw [upd_ne (fun q=>nwf q.symm)]; exact hf1
    have lf:fv1.length < sizeLine:=Nat.lt_of_le_of_lt (show fv1.length<=200000 by omega) (by decide)
    refine ⟨fl,fv1,_,rfl,rfl,hf2,lf,?_⟩
    have K1:=wI (ys:=ys) hw1
    have K2:=wI (ys:=fv1++[V.ref tk]) hf2
    refine ⟨_,by rw [List.length_cons]; exact Nat.lt_succ_self _,st2,.bin p o a e1,_,_,rfl,?_,(by rw [upd_ne nwf,upd_same]),upd_same,?_,?_,?_,?_,rfl⟩
    ·exact (k1.trans (Kp.at (by simp))).trans (Kp.at (by simp))
    ·exact (py.keep K1).keep K2
    ·have e2:ahead st2++Ma.post (.bin p o a e1)=(ahead ((o,p,a) :: st2)++Ma.post e1)++[.op o p]:=by
      simp only [ahead,Ma.post,List.append_assoc]
     rw [e2]
     exact Pts.append ((pf1.keep K1).keep K2) (.cons ⟨tk,rfl,jU.keep (jU.keep ⟨dt,ht⟩ K1) K2⟩ .nil)
    ·simp only [List.length_append,List.length_cons,List.length_nil] at lz1 ⊢
     omega
    ·rw [<- ep]
     conv=>rhs; rw [pops,if_pos z]
   ·have z:¬ s-1<=Sc25.level o:=fun y=>z (decide_eq_true (by omega))
    have e3:pops (s-1) ((o,p,a) :: st2) e1=((o,p,a) :: st2,e1):=by rw [pops,if_neg z]
    refine q H1 _ _ k1 hw1 hf1 ?_ ?_ lz1
    ·rw [<- ep,e3,qfA]; exact pw1
    ·rw [<- ep,e3]; exact pf1
end
end Pg
namespace Pg
open PySem PySem.Spec PyProof.Rows L2 Xc
open Sc25 (Bytes Toks Bad Got Ex Op)
open Ma (PT Stk)
theorem qk7 (k:Str):valV strT (.inr k)=(Ma.strgs.lookup k).map V.int:=by
 unfold strT
 have gen:∀ l:List (Str×Int),valV (l.map fun p=>((.inr p.1:Key),V.int p.2)) (.inr k)=(l.lookup k).map V.int:=by
  intro l
  induction l with
  | nil=>rfl
  | cons x l ih =>
   obtain ⟨y,i⟩:=x
   by_cases h:y=k
   ·subst h
    simp [valV,List.lookup]
   ·have h2:(k == y)=false:=beq_eq_false_iff_ne.mpr fun q=>h q.symm
    rw [List.lookup_cons,h2,<- ih]
    simp [valV,h]
 exact gen _
theorem qlg:∀ w ∈ Sc25.kept,∀ o ∈ Sc25.operators,Ma.sB w≠Ma.Z8 o.2.2:=by decide +kernel
theorem qnh:∀ op:Op,∃ o ∈ Sc25.operators,o.2.2=op:=by intro op; cases op <;> decide +kernel
theorem qmK (w:Bytes) (h:w ∈ Sc25.kept) (op:Op):Ma.sB w≠Ma.Z8 op:=by
 obtain ⟨o,m,rfl⟩:=qnh op
 exact qlg w h o m
theorem qhW {d s:Nat} {t:Toks}:∀ {st:Stk} {e:Ex},Ma.Up st->(∀ s' o,Ma.opOf t=some (s',o)->s'<=s)->Ma.R d 5 st e t=Ma.R d 5 (pops s st e).1 (pops s st e).2 t/\Ma.Up (pops s st e).1/\(∀ x ∈ (pops s st e).1.head?,Sc25.level x.1 < s) /\
  ((ahead st).length+(Ma.post e).length+st.length=(ahead (pops s st e).1).length+(Ma.post (pops s st e).2).length+(pops s st e).1.length)
 | [],e,hu,hb=>⟨rfl,hu,fun x hx=>(nomatch hx),rfl⟩
 | (o,p,a) :: st,e,hu,hb=>by
  by_cases h:s<=Sc25.level o
  ·rw [pops,if_pos h,Ma.qm5 hu fun s' o' q=>Nat.le_trans (hb s' o' q) h]
   obtain ⟨q1,q2,q3,q4⟩:=qhW (d:=d) (s:=s) (t:=t) (st:=st) (e:=.bin p o a e) hu.tail hb
   refine ⟨q1,q2,q3,?_⟩
   rw [<- q4]
   simp only [ahead,Ma.post,List.length_append,List.length_cons,List.length_nil]
   omega
  ·rw [pops,if_neg h]
   refine ⟨rfl,hu,fun x hx=>?_,rfl⟩
   have:(o,p,a)=x:=Option.some.inj hx
   subst this
   show Sc25.level o < s
   omega
theorem qgU:∀ {st:Stk} {e:Ex},(pops 0 st e).1=[]
 | [],e=>rfl
 | (o,p,a) :: st,e=>by rw [pops,if_pos (Nat.zero_le _)]; exact qgU
theorem qnI {o:Op} {p:Nat} {e:Ex} {st:Stk} (hu:Ma.Up st) (h5:Sc25.level o<=5) (h:∀ x ∈ st.head?,Sc25.level x.1 < Sc25.level o):Ma.Up ((o,p,e) :: st):=by
 cases st with
 | nil=>exact h5
 | cons y st=>exact ⟨h5,h y rfl,hu⟩
section
variable {P:Program} {w:World} {K:PySem.W.Frag} {mg:Str->Option Value} {base:Heap} {A:Adr}
theorem Kq.lists {p sc wl fl:Addr} {H0 H1 H2:Hp} (k:Kq p sc H0 H1) (k2:Kp [wl,fl] H1 H2) (n1:H0 wl=none) (n2:H0 fl=none):Kq p sc H0 H2:=fun b o e nb=>k2 b o (k b o e nb) fun z=>by
 simp only [List.mem_cons,List.not_mem_nil,or_false] at z
 rcases z with z | z
 ·rw [z,n1] at e; cases e
 ·rw [z,n2] at e; cases e
theorem Ps.lists {p sc a wl fl:Addr} {b:Bytes} {t:Toks} {n:Int} {H1 H2:Hp} {xs ys:List V} (S:Ps K A H1 p sc a b t n) (k2:Kp [wl,fl] H1 H2) (h1:H1 wl=some (.lst xs)) (h2:H1 fl=some (.lst ys)) (tx:Qk K H2 a b):Ps K A H2 p sc a b t n :=
 S.same (fun x C dx fs q=>k2 x _ q fun z=>by
  simp only [List.mem_cons,List.not_mem_nil,or_false] at z
  rcases z with z | z
  ·rw [z,h1] at q; cases q
  ·rw [z,h2] at q; cases q) fun _=>tx
theorem qiQ (T:Txt K mg A) (B:Tbl P w K A) (d:Nat) (hd:d<=32) (hO:Ok P w K mg base (CXr P w K A.qi) (10+4 * d) A.qX ["self"] (spX K A (Ma.Pt d) (32-d))) :
  Ok P w K mg base (CXr P w K A.qi) (11+4 * d) A.qp ["self"] (spX K A (Ma.E d 0) (32-d)):=by
 obtain ⟨fd,F,bi⟩:=T.wA
 obtain ⟨f1,G1,b1⟩:=j7 (P:=P) (w:=w) (base:=base) T B
 obtain ⟨f2,G2,b2⟩:=hO
 obtain ⟨f3,G3,b3⟩:=qkr (P:=P) (w:=w) (base:=base) T B
 obtain ⟨_,Fr,_⟩:=T.qek
 refine ⟨fd,(F.okR (k:=10+4 * d) JG (fun vs H Q E h=>?_) (fun cdv AA outer s H vs Q E hr h=>?_)).mono (Nat.le_of_eq (by omega)),bi⟩
 ·obtain ⟨p,sc,a,b,t,rfl,_⟩:=h
  rfl
 ·obtain ⟨p,sc,a,b,t,rfl,S,o⟩:=h
  have nd:=JG.nd
  have hr6:=hr.mono (show 6<=10+4 * d by omega)
  have hr1:=hr.mono (show 1<=10+4 * d by omega)
  refine ⟨_,pss_cons (ps_set (i:=1) nd rfl (Or.inl rfl) (pe_meth0 (pv 0) T.qe T.QS G2 hr b2 .nil qw))
   (pss_cons (ps_set (i:=2) nd rfl (Or.inl rfl) (pe_lst pa_nil))
   (pss_cons (ps_while qbn (pt_cmp (qly B.strn (pe_fld (pe_fld (pv 0) rfl) rfl) (pe_glob (by rfl) T.GD (by rfl))) (by with_unfolding_all rfl))
    (pss_cons (ps_expr (pe_call G3 hr1 rfl T.qez Fr.kp b3 .nil pass0 (pa_cons (pv 2) (pa_cons (pv 1) (pa_cons (qhX B.strn (pe_glob (by rfl) T.GD (by rfl)) (pe_fld (pe_fld (pv 0) rfl) rfl) (fun _ _=>rfl)) pa_nil)))))
    (pss_cons (ps_expr (pe_bm PySem.F.plainAttrs_list PySem.F.slot_list_append PySem.F.type_list_append mt_append (pv 2) (pa_cons (pe_meth (pv 0) T.qe T.ql G1 hr6 b1 .nil qw (pa_cons (pe_fld (pe_fld (pv 0) rfl) rfl) pa_nil)) pa_nil)))
    (pss_one (ps_expr (pe_bm PySem.F.plainAttrs_list PySem.F.slot_list_extend PySem.F.type_list_extend mt_extend (pv 1) (pa_cons (pe_meth0 (pv 0) T.qe T.QS G2 hr b2 .nil qw) pa_nil)))))))
   (pss_cons (ps_expr (pe_call G3 hr1 rfl T.qez Fr.kp b3 .nil pass0 (pa_cons (pv 2) (pa_cons (pv 1) (pa_cons pe_int pa_nil)))))
   (pss_one (ps_ret (pv 1)))))),?_⟩
  obtain ⟨x0,r0,rfl,nl0,wf0⟩:=S.cons
  refine S.tokE fun tk0 dp0 dt0 hp0 _=>?_
  rw [Ma.qj1] at o
  refine me0 rfl hp0 rfl ⟨p,sc,a,b,x0 :: r0,rfl,S,(o.bind fun e t hl=>Ma.lg_R trivial hl).imp (fun e t1 eP hl1 o1 H1 fl nf k1 S1 ls=>?_) fun _ z=>z⟩
  obtain ⟨fv,hf,pf⟩:=ls
  have sz0:=S.sz
  have lp:=Ma.qjC eP
  have lp:(Ma.post e).length+t1.length<=(x0 :: r0).length:=lp
  refine ⟨Nat.zero_le _,fun wl hw=>?_⟩
  have nwf:wl≠fl:=fun q=>by rw [q,hf] at hw; cases hw
  have nw:H wl=none:=k1.free hw (S1.notps hw)
  have hf1:(upd H1 wl (.lst [])) fl=some (.lst fv):=by rw [upd_ne (fun q=>nwf q.symm)]; exact hf
  refine ⟨fun m σ H'=>∃ st e t' wv fv,σ=[some (.ref p),some (.ref fl),some (.ref wl)]/\Kq p sc H H'/\Ps K A H' p sc a b t' (32-d)/\H' wl=some (.lst wv)/\H' fl=some (.lst fv)/\Pts A H' wv (opsL st)/\Pts A H' fv (ahead st++Ma.post e)/\Ma.Up st /\
   wv.length+fv.length+t'.length<=(x0 :: r0).length/\Ma.Out (Ma.R d 5 st e t') (fun e t'=>∀ H' l,H l=none->Kq p sc H H'->Ps K A H' p sc a b t' (32-d)->LsR A H' l (Ma.post e)->Q (.ref l) H') (Rz E)/\m=t'.length,
   ⟨_,[],e,t1,[],fv,rfl,k1.trans (Kp.new hw),S1.new hw,upd_same,hf1,.nil,pf.keep (UT hw),trivial,?_,o1,rfl⟩,?_⟩
  ·have:=Paired.length pf
   rw [List.length_nil,this]
   omega
  rintro m σ H2 ⟨st,e,t',wv,fv,rfl,k2,S2,hw2,hf2,pw2,pf2,hu,lz,o2,rfl⟩
  obtain ⟨x,r,rfl,nl,wf⟩:=S2.cons
  refine S2.tokE fun tk dp dt hp hdt=>?_
  refine fl1 rfl hp T.qe T.za rfl hdt T.qy T.zb rfl ⟨.inr (Ma.kindS x.1),rfl,_,rfl,?_⟩
  rw [qk7]
  have lens:wv.length+fv.length<=200000:=by omega
  cases ho:Ma.opOf (x :: r) with
  | none =>
   obtain ⟨u,v⟩:=x
   rw [Ma.qlT wf ho]
   refine iteF ⟨_,rfl,_,rfl,wl,fl,wv,fv,0,st,e,rfl,nwf,hw2,hf2,pw2,pf2,lens,fun H3 wv3 fv3 k3 hw3 hf3 pw3 pf3 _=>?_⟩
   obtain ⟨q1,_,_,_⟩:=qhW (d:=d) (s:=0) (t:=(u,v) :: r) (st:=st) (e:=e) hu (fun s' o' q=>by rw [ho] at q; cases q)
   rw [q1,qgU,Ma.qm8 ho] at o2
   have kk:=Kq.lists k2 k3 nw nf
   refine ⟨_,rfl,(o2.ok S2.long) H3 fl nf kk (S2.lists k3 hw2 hf2 (S.text kk)) ⟨fv3,hf3,?_⟩⟩
   have e0:(0:Nat)-1=0:=rfl
   rw [e0,qgU] at pf3
   exact pf3
  | some so =>
   obtain ⟨s,op⟩:=so
   obtain ⟨u,v⟩:=x
   obtain ⟨ek,el⟩:=Ma.qk5 ho
   have ek:Ma.kindS u=Ma.Z8 op:=ek
   have h5:=(Ma.qe7 ho).1
   rw [show Ma.strgs.lookup (Ma.kindS (u,v).1)=some ((Sc25.level op:Int)+1) by rw [<- Ma.qnF op,<- ek]]
   refine iteT ⟨fun σ' H'=>∃ m',m' < ((u,v) :: r).length/\∃ st e t' wv fv,σ'=[some (.ref p),some (.ref fl),some (.ref wl)]/\Kq p sc H H'/\Ps K A H' p sc a b t' (32-d)/\H' wl=some (.lst wv)/\H' fl=some (.lst fv)/\Pts A H' wv (opsL st)/\Pts A H' fv (ahead st++Ma.post e)/\Ma.Up st /\
    wv.length+fv.length+t'.length<=(x0 :: r0).length/\Ma.Out (Ma.R d 5 st e t') (fun e t'=>∀ H' l,H l=none->Kq p sc H H'->Ps K A H' p sc a b t' (32-d)->LsR A H' l (Ma.post e)->Q (.ref l) H') (Rz E)/\m'=t'.length,fun _ _ z=>z,?_⟩
   refine ⟨_,rfl,_,rfl,fl1 rfl hp T.qe T.za rfl hdt T.qy T.zb rfl ⟨.inr (Ma.kindS u),_,rfl,(by rw [ek]; exact qj8 op),wl,fl,wv,fv,Sc25.level op+1,st,e,rfl,nwf,hw2,hf2,pw2,pf2,lens,fun H3 wv3 fv3 k3 hw3 hf3 pw3 pf3 lz3=>?_⟩⟩
   have e0:Sc25.level op+1-1=s:=by omega
   rw [e0] at pw3 pf3
   obtain ⟨q1,q2,q3,_⟩:=qhW (d:=d) (s:=s) (t:=(u,v) :: r) (st:=st) (e:=e) hu (fun s' o' q=>by rw [ho] at q; injection q with q; injection q with q _; omega)
   generalize hst:(pops s st e).1=st3 at q1 q2 q3 pw3 pf3
   generalize hee:(pops s st e).2=e3 at q1 pf3
   rw [q1,Ma.qn8 ho q3] at o2
   have o2:Ma.Out ((Ma.Pt d r).bind fun y=>Ma.R d 5 ((op,v,e3) :: st3) y.1 y.2) _ _:=o2
   have up3:Ma.Up ((op,v,e3) :: st3):=qnI q2 (by omega) (by rw [el]; exact q3)
   have kk:=Kq.lists k2 k3 nw nf
   have S3:=S2.lists k3 hw2 hf2 (S.text kk)
   refine S3.tokE fun tk3 dp3 dt3 hp3 hdt3=>?_
   have nend:u≠.ended:=fun q=>by rw [q] at ek; cases op <;> exact absurd ek (by decide)
   have noth:Ma.kindS u ≠ "other" := fun q=>by rw [ek] at q; cases op <;> exact absurd q (by decide)
   refine ⟨_,rfl,.inl ⟨rfl,_,SqL.of hw3⟩,me0 rfl hp3 rfl (fl1 rfl hp3 T.qe T.za rfl hdt3 T.qy T.zb rfl ⟨p,sc,a,b,(u,v),r,_,Ma.kindS u,rfl,S3,noth,fun q=>absurd rfl q,fun _ q=>absurd q nend,fun _ _=>⟨fun hl=>?_,fun hl H4 y ty k4 S4=>?_⟩⟩)⟩
   ·rw [Ma.qi9 hl] at o2
    exact o2
   have hw4:H4 wl=some (.lst wv3):=S3.keep k4 hw3 (Other.lst _)
   have hf4:H4 fl=some (.lst fv3):=S3.keep k4 hf3 (Other.lst _)
   have lw3:wv3.length < sizeLine:=Nat.lt_of_le_of_lt (show wv3.length<=200000 by omega) (by decide)
   refine ⟨wl,wv3,_,rfl,rfl,hw4,lw3,?_⟩
   have k5:Kq p sc H (upd H4 wl (.lst (wv3++[.ref y]))):=(kk.trans k4).fresh nw
   have S5:=S4.list hw4 (ys:=wv3++[.ref y]) (S.text k5)
   have hf5:(upd H4 wl (.lst (wv3++[.ref y]))) fl=some (.lst fv3):=by rw [upd_ne (fun q=>nwf q.symm)]; exact hf4
   have K5:=wI (ys:=wv3++[.ref y]) hw4
   have ty5:jU A (upd H4 wl (.lst (wv3++[.ref y]))) y (Ma.Z8 op) (.str "") v:=by
    have ty:jU A H4 y (Ma.kindS u) (valS u) v:=ty
    have ev:valS u=.str "" := by
     cases u with
     | name w =>
      exfalso
      by_cases hk:Sc25.kept.contains w=true
      ·have e2:Ma.sB w=Ma.Z8 op:=by rw [<- ek]; show _=(if _ then _ else _); rw [if_pos hk]
       have:=qmK w (List.contains_iff_mem.mp hk) op
       exact this e2
      ·have e2:("name" : Str)=Ma.Z8 op:=by rw [<- ek]; show _=(if _ then _ else _); rw [if_neg hk]
       revert e2; cases op <;> (intro e2; exact absurd e2 (by decide))
     | num m=>exfalso; revert ek; cases op <;> (intro ek; exact absurd (show ("number" : Str)=_ from ek) (by decide))
     | sign s=>rfl
     | long=>rfl
     | bad=>rfl
     | ended=>rfl
    rw [ek,ev] at ty
    exact ty.keep K5
   refine S5.obE fun dp5 tk5 hp5=>?_
   refine ⟨_,rfl,.inl ⟨rfl,_,SqL.of hf5⟩,me0 rfl hp5 rfl ⟨p,sc,a,b,r,rfl,S5,(o2.bind fun e t hl=>Ma.lg_R up3 hl).imp (fun e6 t6 eP6 hl6 o6 H6 l6 n6 k6 S6 ls6=>?_) fun _ z=>z⟩⟩
   obtain ⟨zv,hz6,pz6⟩:=ls6
   have hf6:H6 fl=some (.lst fv3):=S5.keep k6 hf5 (Other.lst _)
   have hw6:H6 wl=some (.lst (wv3++[.ref y])):=S5.keep k6 upd_same (Other.lst _)
   have lp6:(Ma.post e6).length+t6.length<=r.length:=Ma.qjC eP6
   have lz6:zv.length=(Ma.post e6).length:=Paired.length pz6
   simp only [List.length_cons] at lz sz0
   have lsum:fv3.length+zv.length<=sizeLine:=Nat.le_trans (show fv3.length+zv.length<=400000 by omega) (by decide)
   refine ⟨fl,l6,fv3,zv,rfl,rfl,hf6,hz6,lsum,?_⟩
   have k7:Kq p sc H (upd H6 fl (.lst (fv3++zv))):=(k5.trans k6).fresh nf
   have K6:=S5.keeps k6
   have K7:=wI (ys:=fv3++zv) hf6
   refine ⟨t6.length,?_,(op,v,e3) :: st3,e6,t6,wv3++[.ref y],fv3++zv,rfl,k7,S6.list hf6 (S.text k7),(by rw [upd_ne nwf]; exact hw6),upd_same,?_,?_,up3,?_,o6,rfl⟩
   ·simp only [List.length_cons]; omega
   ·rw [qfA]
    exact Pts.append ((((pw3.keep (S3.keeps k4)).keep K5).keep K6).keep K7) (.cons ⟨y,rfl,(ty5.keep K6).keep K7⟩ .nil)
   ·show Pts A _ _ ((ahead st3++Ma.post e3)++Ma.post e6)
    exact Pts.append ((((pf3.keep (S3.keeps k4)).keep K5).keep K6).keep K7) (pz6.keep K7)
   ·simp only [List.length_append,List.length_cons,List.length_nil]
    omega
end
end Pg
namespace Pg
open PySem PySem.Spec PyProof.Rows L2 Xc
open Sc25 (Bytes Toks Bad Got Ex)
open Ma (PT)
def nots:Nat->Ex->Ex
 | 0,e=>e
 | k+1,e=>nots k (.not_ e)
theorem qiy:∀ (k:Nat) (e:Ex),Ma.post (nots k e)=Ma.post e++List.replicate k .nt
 | 0,e=>by simp [nots]
 | k+1,e=>by
  rw [nots,qiy k,List.replicate_succ]
  show (Ma.post e++[PT.nt])++_=_
  rw [List.append_assoc]
  rfl
theorem qnn {d:Nat} {x:Sc25.Tok×Nat} {r:Toks} (h:Ma.kindS x.1 = "!"):Ma.Pt d (x :: r)=if d=0 then .error .full else (Ma.Pt (d-1) r).map fun y=>(.not_ y.1,y.2):=by
 have hn:∀ m p r',x :: r≠(.num m,p) :: r':=fun m p r' q=>by
  injection q with q _
  rw [q] at h
  exact absurd (show ("number" : Str) = "!" from h) (by decide)
 rw [Ma.P_eq hn,Z5 qi8 h]
 rfl
theorem Out.map {r:Got Ex} {g:Ex->Ex} {Q:Ex->Toks->Prop} {Z:Bad->Prop} (h:Ma.Out (r.map fun y=>(g y.1,y.2)) Q Z):Ma.Out r (fun e t=>Q (g e) t) Z:=by
 cases r with
 | error b=>exact h
 | ok y=>exact h
theorem qj7 {A:Adr} {H:Hp}:∀ {vs:List V},(∀ v ∈ vs,PtR A H v .nt)->Pts A H vs (List.replicate vs.length .nt)
 | [],_=>.nil
 | v :: vs,h=>.cons (h v (List.mem_cons_self ..)) (qj7 fun u hu=>h u (List.mem_cons_of_mem _ hu))
section
variable {P:Program} {w:World} {K:PySem.W.Frag} {mg:Str->Option Value} {base:Heap} {A:Adr}
def spXs (K:PySem.W.Frag) (A:Adr) (d:Nat):Sp:=fun vs H Q E=>∃ j,j<=d/\spX K A (Pp j) (32-j) vs H Q E
theorem qlh (T:Txt K mg A) (B:Tbl P w K A) (d:Nat) (hd:d<=32) (hE:∀ d',d' < d->Ok P w K mg base (CXr P w K A.qi) (11+4 * d') A.qp ["self"] (spX K A (Ma.E d' 0) (32-d'))) :
  Ok P w K mg base (CXr P w K A.qi) (9+4 * d) A.qu ["self"] (spXs K A d):=by
 obtain ⟨fd,F,bi⟩:=T.Zd
 have G:∀ j,j<=d->FnOk P w K mg base (CXr P w K A.qi) (9+4 * d) A.qu fd ["self"] (spX K A (Pp j) (32-j)):=fun j hj=>(ql9 T B F j (by omega) fun d' q=>hE d' (by omega)).mono (by omega)
 refine ⟨fd,⟨fun vs H Q E h=>?_,fun AA outer s H args us vs Q E hr he hb hv h=>?_⟩,bi⟩
 ·obtain ⟨j,hj,h⟩:=h
  exact (G j hj).len vs H Q E h
 ·obtain ⟨j,hj,h⟩:=h
  exact (G j hj).run AA outer s H args us vs Q E hr he hb hv h
theorem Ps.depth {H:Hp} {p sc a:Addr} {b:Bytes} {t:Toks} {n:Int} (S:Ps K A H p sc a b t n):∃ dp tk,H p=some (.ins A.qg dp [("scanner",.ref sc),("token",.ref tk),("depth",.int n)]) /\
  ∀ m,Ps K A (upd H p (.ins A.qg dp [("scanner",.ref sc),("token",.ref tk),("depth",.int m)])) p sc a b t m:=by
 obtain ⟨tk,j,x,r,hpa,ht,e0,Sc,nx,nl,wf⟩:=S.st
 obtain ⟨dp,hp⟩:=id hpa
 obtain ⟨dt,hdt⟩:=id ht
 obtain ⟨ds,hs⟩:=id Sc.obj
 have nps1:sc≠p:=fun q=>qiX hpa Sc.obj q.symm
 have ntp:tk≠p:=qay hdt hp (by decide)
 refine ⟨dp,tk,hp,fun m=>⟨⟨tk,j,x,r,⟨dp,upd_same⟩,⟨dt,by rw [upd_ne ntp]; exact hdt⟩,e0,⟨⟨ds,by rw [upd_ne nps1]; exact hs⟩,Sc.txt.kp (L:=[p]) (Kp.at (by simp)) (fun y hy=>?_),Sc.le,Sc.low⟩,nx,nl,wf⟩,S.sz⟩⟩
 have:y=p:=by simpa using hy
 subst this
 exact ⟨_,_,_,hp⟩
theorem qkI (T:Txt K mg A) (B:Tbl P w K A) (d:Nat) (hd:d<=32) (hE:∀ d',d' < d->Ok P w K mg base (CXr P w K A.qi) (11+4 * d') A.qp ["self"] (spX K A (Ma.E d' 0) (32-d'))) :
  Ok P w K mg base (CXr P w K A.qi) (10+4 * d) A.qX ["self"] (spX K A (Ma.Pt d) (32-d)):=by
 obtain ⟨fd,F,bi⟩:=T.Ye
 obtain ⟨f2,G2,b2⟩:=qeZ (P:=P) (w:=w) (base:=base) T B
 obtain ⟨f3,G3,b3⟩:=qlh (P:=P) (w:=w) (base:=base) T B d hd hE
 refine ⟨fd,(F.okR (k:=9+4 * d) V1 (fun vs H Q E h=>?_) (fun cdv AA outer s H vs Q E hr h=>?_)).mono (Nat.le_of_eq (by omega)),bi⟩
 ·obtain ⟨p,sc,a,b,t,rfl,_⟩:=h
  rfl
 ·obtain ⟨p,sc,a,b,t,rfl,S,o⟩:=h
  have nd:=V1.nd
  have hr7:=hr.mono (show 7<=9+4 * d by omega)
  refine ⟨_,pss_cons (ps_set (i:=1) nd rfl (Or.inl rfl) (pe_lst pa_nil))
   (pss_cons (ps_while qbn (pt_cmpR op_eq (pe_fld (pe_fld (pv 0) rfl) rfl) pe_str (nomark _))
    (pss_one (ps_expr (pe_bm PySem.F.plainAttrs_list PySem.F.slot_list_append PySem.F.type_list_append mt_append (pv 1) (pa_cons (pe_meth (pv 0) T.qe T.Ql G2 hr7 b2 .nil qw (pa_cons pe_str pa_nil)) pa_nil)))))
   (pss_cons (ps_set (i:=2) nd rfl (Or.inl rfl) (pe_meth0 (pv 0) T.qe T.Q7 G3 hr b3 .nil qw))
   (pss_cons (ps_fldaug (pv 0) (pe_callB call_len_seq (by rfl) T.Ke PySem.boot_len (pa_cons (pv 1) pa_nil)) in_sub)
   (pss_cons (ps_expr (pe_bm PySem.F.plainAttrs_list PySem.F.slot_list_extend PySem.F.type_list_extend mt_extend (pv 2) (pa_cons (qkA rfl (by rfl) T.qll (by rfl) T.qhl (pv 1)) pa_nil)))
   (pss_one (ps_ret (pv 2))))))),?_⟩
  refine ⟨Nat.zero_le _,fun nl hn=>?_⟩
  have hE0:=o
  have go:Ma.Out (Ma.Pt d t) (fun e t'=>∀ H' l,H l=none->Kq p sc H H'->Ps K A H' p sc a b t' (32-d)->LsR A H' l (Ma.post (nots 0 e))->Q (.ref l) H') (Rz E):=o
  refine ⟨fun m σ H'=>∃ k j t' nv,k+j=d/\σ=[some (.ref p),some (.ref nl),none]/\Kq p sc H H'/\Ps K A H' p sc a b t' (32-j)/\H' nl=some (.lst nv)/\nv.length=k/\(∀ v ∈ nv,PtR A H' v .nt) /\
   Ma.Out (Ma.Pt j t') (fun e t'=>∀ H' l,H l=none->Kq p sc H H'->Ps K A H' p sc a b t' (32-d)->LsR A H' l (Ma.post (nots k e))->Q (.ref l) H') (Rz E)/\m=t'.length,
   ⟨_,0,d,t,[],by omega,rfl,Kp.new hn,S.new hn,upd_same,rfl,fun v hv=>(nomatch hv),go,rfl⟩,?_⟩
  rintro m σ H2 ⟨k,j,t',nv,ekj,rfl,k2,S2,hn2,ln2,pn2,o2,rfl⟩
  obtain ⟨x,r,rfl,nl2,wf⟩:=S2.cons
  refine S2.tokE fun tk dp dt hp hdt=>?_
  refine fl1 rfl hp T.qe T.za rfl hdt T.qy T.zb rfl ⟨rfl,_,rfl,ite2 (fun z=>?_) fun z=>?_⟩
  ·-- one more !
   have z:=Ja z
   rw [qnn z] at o2
   refine ⟨fun σ' H'=>∃ m',m' < (x :: r).length/\∃ k j t' nv,k+j=d/\σ'=[some (.ref p),some (.ref nl),none]/\Kq p sc H H'/\Ps K A H' p sc a b t' (32-j)/\H' nl=some (.lst nv)/\nv.length=k/\(∀ v ∈ nv,PtR A H' v .nt) /\
    Ma.Out (Ma.Pt j t') (fun e t'=>∀ H' l,H l=none->Kq p sc H H'->Ps K A H' p sc a b t' (32-d)->LsR A H' l (Ma.post (nots k e))->Q (.ref l) H') (Rz E)/\m'=t'.length,fun _ _ z=>z,?_⟩
   refine ⟨_,rfl,.inl ⟨rfl,_,SqL.of hn2⟩,me0 rfl hp rfl ⟨p,sc,a,b,x,r,_,"!",rfl,S2,by decide,by decide,fun q=>absurd z q,fun _ h0=>?_,fun _ h0=>⟨fun hl=>?_,fun hl H3 y ty k3 S3=>?_⟩⟩⟩
   ·have:j=0:=by omega
    subst this
    exact o2
   ·have j0:j≠0:=fun q=>h0 (by subst q; rfl)
    rw [if_neg j0,Ma.qi9 hl] at o2
    exact o2
   have j0:j≠0:=fun q=>h0 (by subst q; rfl)
   rw [if_neg j0] at o2
   have o3:=Out.map o2
   have hn3:H3 nl=some (.lst nv):=S2.keep k3 hn2 (Other.lst _)
   have en:((32:Int)-j+1)=32-((j-1:Nat):Int):=by omega
   rw [en] at S3
   have K3:=S2.keeps k3
   have k4:Kq p sc H (upd H3 nl (.lst (nv++[.ref y]))):=(k2.trans k3).fresh hn
   have K4:=wI (ys:=nv++[.ref y]) hn3
   have ty:jU A H3 y "!" (.str "") x.2:=by
    have q:=ty
    unfold TokR at q
    rw [z,(qi8.iff x.1).mp z] at q
    exact q
   refine ⟨nl,nv,_,rfl,rfl,hn3,Nat.lt_of_le_of_lt (show nv.length<=200000 by omega) (by decide),r.length,by simp,k+1,j-1,r,nv++[.ref y],by omega,rfl,k4,S3.list hn3 (S.text k4),upd_same,by simp [ln2],?_,o3,rfl⟩
   intro v hv
   rcases List.mem_append.mp hv with hv | hv
   ·exact ((pn2 v hv).keep K3).keep K4
   ·have:v=.ref y:=by simpa using hv
    subst this
    exact ⟨y,rfl,x.2,ty.keep K4⟩
  ·-- the operand
   have z:=Jc z
   have eP:=qoz (d:=j) (Qi (x:=x) (r:=r) qi8 z)
   rw [eP] at o2
   refine me0 rfl hp rfl ⟨j,by omega,p,sc,a,b,x :: r,rfl,S2,o2.imp (fun e t3 eo hl3 o3 H3 l fl k3 S3 ls=>?_) fun _ z=>z⟩
   rw [<- eP] at eo
   have lp:(Ma.post e).length+t3.length<=(x :: r).length:=Ma.qjC eo
   have sz:=S2.sz
   obtain ⟨fv,hf3,pf3⟩:=ls
   have lf:fv.length=(Ma.post e).length:=Paired.length pf3
   have hn3:H3 nl=some (.lst nv):=S2.keep k3 hn2 (Other.lst _)
   have K3:=S2.keeps k3
   obtain ⟨dp3,tk3,hp3,S4⟩:=S3.depth
   have nlp:=S3.nolist hn3
   have lpn:=S3.nolist hf3
   have S4:=S4 (32-(d:Int))
   have k4:Kq p sc H3 (upd H3 p (.ins A.qg dp3 [("scanner",.ref sc),("token",.ref tk3),("depth",.int (32-(d:Int)))])):=Kp.at (by simp)
   refine ⟨_,rfl,p,_,dp3,_,_,rfl,hp3,T.qe,T.vg,rfl,_,rfl,nl,nv,rfl,.inl (SqL.of hn3),_,_,rfl,rfl,dp3,_,hp3,(by show 3 < 1000; decide),?_⟩
   have ed:(32:Int)-j-nv.length=32-d:=by omega
   show tSeq _ _ _ _ (upd H3 p (.ins A.qg dp3 [("scanner",.ref sc),("token",.ref tk3),("depth",.int ((32:Int)-j-nv.length))]))
   rw [ed]
   have hf4:=S3.keep k4 hf3 (Other.lst _)
   have hn4:=S3.keep k4 hn3 (Other.lst _)
   have K4:=S3.keeps k4
   refine ⟨_,rfl,.inl ⟨rfl,_,SqL.of hf4⟩,_,rfl,nl,nv,rfl,hn4,fun l5 hl5=>?_⟩
   have nl5:l≠l5:=fun q=>by rw [<- q,hf4] at hl5; cases hl5
   have hf5:(upd (upd H3 p (.ins A.qg dp3 [("scanner",.ref sc),("token",.ref tk3),("depth",.int (32-(d:Int)))])) l5 (.lst nv.reverse)) l=some (.lst fv):=by rw [upd_ne nl5]; exact hf4
   refine ⟨l,l5,fv,nv.reverse,rfl,rfl,hf5,upd_same,Nat.le_trans (show fv.length+nv.reverse.length<=400000 by rw [List.length_reverse]; omega) (by decide),?_⟩
   have K5:=UT (o':=.lst nv.reverse) hl5
   have K6:=wI (ys:=fv++nv.reverse) hf5
   have hl:H l=none:=k2.free fl (S2.notps fl)
   have k6:Kq p sc H (upd (upd (upd H3 p (.ins A.qg dp3 [("scanner",.ref sc),("token",.ref tk3),("depth",.int (32-(d:Int)))])) l5 (.lst nv.reverse)) l (.lst (fv++nv.reverse))):=(((k2.trans k3).trans k4).trans (Kp.new hl5)).fresh hl
   refine ⟨_,rfl,o3 _ l hl k6 ((S4.new hl5).list hf5 (S.text k6)) ⟨_,upd_same,?_⟩⟩
   rw [qiy,<- ln2,<- List.length_reverse]
   refine Pts.append (((pf3.keep K4).keep K5).keep K6) (qj7 fun v hv=>?_)
   exact ((((pn2 v (List.mem_reverse.mp hv)).keep K3).keep K4).keep K5).keep K6
theorem ok_E (T:Txt K mg A) (B:Tbl P w K A):∀ d,d<=32->Ok P w K mg base (CXr P w K A.qi) (11+4 * d) A.qp ["self"] (spX K A (Ma.E d 0) (32-d)):=by
 intro d
 induction d using Nat.strongRecOn with
 | _ d ih=>exact fun hd=>qiQ T B d hd (qkI T B d hd fun d' h=>ih d' h (by omega))
theorem ok_V (T:Txt K mg A) (B:Tbl P w K A) (d:Nat) (hd:d<=32):Ok P w K mg base (CXr P w K A.qi) (8+4 * d) A.qP ["self"] (spX K A (Vr d) (32-d)) :=
 qgL T B d hd fun d' h=>ok_E T B d' (by omega)
end
end Pg
namespace Pg
open PySem PySem.Spec PyProof.Rows L2 Xc
open Sc25 (Bytes Toks Bad Got Ex Cell Decl Proc Prog)
open Ma (PT)
def zF (N:Addr->Prop) (H H':Hp):Prop:=∀ x o,H x=some o->Other o->((∃ xs,o=.lst xs)->N x)->H' x=some o
theorem zF.keep {N:Addr->Prop} {H H':Hp} (k:zF N H H'):Keep H H':=fun x o h ho no=>k x o h ho fun ⟨xs,e⟩=>absurd e (no xs)
theorem zF.lst {N:Addr->Prop} {H H':Hp} (k:zF N H H') {l:Addr} {xs:List V} (n:N l) (h:H l=some (.lst xs)):H' l=some (.lst xs):=k l _ h (Other.lst _) fun _=>n
theorem zF.ins {N:Addr->Prop} {H H':Hp} (k:zF N H H') {x C dx:Addr} {f:Str} {v:V} {fs:List (Str×V)} (h:H x=some (.ins C dx ((f,v) :: fs))) (h1:f ≠ "scanner") (h2:f ≠ "text"):H' x=some (.ins C dx ((f,v) :: fs)) :=
 k x _ h (Other.ins h1 h2) fun ⟨_,e⟩=>(nomatch e)
theorem zF.upd {N:Addr->Prop} {H:Hp} {l:Addr} {xs ys:List V} (h:H l=some (.lst xs)) (n:¬ N l):zF N H (upd H l (.lst ys)):=fun x o q _ no=>by
 have ne:x≠l:=fun z=>by
  rw [z,h] at q
  cases q
  rw [z] at no
  exact n (no ⟨_,rfl⟩)
 rw [upd_ne ne]; exact q
theorem zF.new {N:Addr->Prop} {H:Hp} {l:Addr} {o':HO} (h:H l=none):zF N H (L2.upd H l o'):=fun x o q _ _=>by rw [upd_ne (ne_of_none q h)]; exact q
theorem zF.made {N:Addr->Prop} {H:Hp} {z dz:Addr} {o0 o:HO} (h:H z=none) (h':H dz=none):zF N H (L2.upd (L2.upd (L2.upd H dz (.own z)) z o0) z o):=fun x u q _ _=>by
 rw [upd_ne (ne_of_none q h),upd_ne (ne_of_none q h),upd_ne (ne_of_none q h')]; exact q
theorem Ps.jC {K:PySem.W.Frag} {A:Adr} {N:Addr->Prop} {H H':Hp} {p sc a:Addr} {b:Bytes} {t:Toks} {n:Int} (S:Ps K A H p sc a b t n) (hk:Kq p sc H H'):zF N H H':=fun x o h ho _=>S.keep hk h ho
def LsN (A:Adr) (N:Addr->Prop) (H:Hp) (v:V) (ts:List PT):Prop:=∃ l,v=.ref l/\N l/\LsR A H l ts
theorem LsN.keep {A:Adr} {N:Addr->Prop} {H H':Hp} {v:V} {ts:List PT} (h:LsN A N H v ts) (k:zF N H H'):LsN A N H' v ts:=by
 obtain ⟨l,e,n,vs,h1,h2⟩:=h
 exact ⟨l,e,n,vs,k.lst n h1,h2.keep k.keep⟩
theorem LsN.mono {A:Adr} {N N':Addr->Prop} {H:Hp} {v:V} {ts:List PT} (h:LsN A N H v ts) (m:∀ l,N l->N' l):LsN A N' H v ts:=by
 obtain ⟨l,e,n,h⟩:=h
 exact ⟨l,e,m l n,h⟩
def NmR (A:Adr) (H:Hp) (v:V) (x:Nat×Bytes):Prop:=∃ y,v=.ref y/\jU A H y "name" (.str (Ma.sB x.2)) x.1
theorem NmR.keep {A:Adr} {H H':Hp} {v:V} {x:Nat×Bytes} (h:NmR A H v x) (k:Keep H H'):NmR A H' v x:=let ⟨y,e,t⟩:=h; ⟨y,e,t.keep k⟩
def DcR (A:Adr) (Z:Decl->V->Prop) (H:Hp) (v:V) (d:Decl):Prop:=∃ x,∃ dx:Addr×V,∃ nm sz,v=.ref x/\H x=some (.ins A.zH dx.1 [("name",nm),("is_row",.bl d.row.isSome),("size",sz),("number",dx.2)])/\NmR A H nm (d.p,d.x)/\Z d sz
theorem DcR.keep {A:Adr} {Z:Decl->V->Prop} {N:Addr->Prop} {H H':Hp} {v:V} {d:Decl} (h:DcR A Z H v d) (k:zF N H H'):DcR A Z H' v d:=by
 obtain ⟨x,dx,nm,sz,e,h1,h2,h3⟩:=h
 exact ⟨x,dx,nm,sz,e,k.ins h1 (by decide) (by decide),h2.keep k.keep,h3⟩
def zG (d:Decl) (v:V):Prop:=v=.int (d.size:Nat)
def zP (d:Decl) (v:V):Prop:=v=.non
def LnR {α:Type} (R:Hp->V->α->Prop) (N:Addr->Prop) (H:Hp) (v:V) (xs:List α):Prop:=∃ l vs,v=.ref l/\N l/\H l=some (.lst vs)/\Paired (R H) vs xs
theorem LnR.keep {α:Type} {R:Hp->V->α->Prop} {N:Addr->Prop} {H H':Hp} {v:V} {xs:List α} (h:LnR R N H v xs) (k:zF N H H') (kr:∀ v x,R H v x->R H' v x):LnR R N H' v xs:=by
 obtain ⟨l,vs,e,n,h1,h2⟩:=h
 exact ⟨l,vs,e,n,k.lst n h1,Paired.mapP h2 kr⟩
theorem LnR.mono {α:Type} {R:Hp->V->α->Prop} {N N':Addr->Prop} {H:Hp} {v:V} {xs:List α} (h:LnR R N H v xs) (m:∀ l,N l->N' l):LnR R N' H v xs:=by
 obtain ⟨l,vs,e,n,h⟩:=h
 exact ⟨l,vs,e,m l n,h⟩
theorem Vz {α β:Type} {R:α->β->Prop}:∀ {xs:List α} {ys:List β} {x:α} {y:β},Paired R xs ys->R x y->Paired R (xs++[x]) (ys++[y])
 | _,_,_,_,.nil,h=>.cons h .nil
 | _,_,_,_,.cons r t,h=>.cons r (Vz t h)
def sgS:Sc25.Change->Str
 | .plus => "+="
 | .minus => "-="
 | .xor_ => "^="
def caS (un:Bool):Str:=if un=true then "uncall" else "call"
theorem Other.ins0 {C dx:Addr}:Other (.ins C dx []):=⟨fun _ _ _ _ q=>(nomatch q),fun _ _ _ _ q=>(nomatch q)⟩
theorem zF.ins0 {N:Addr->Prop} {H H':Hp} (k:zF N H H') {x C dx:Addr} (h:H x=some (.ins C dx [])):H' x=some (.ins C dx []):=k x _ h Other.ins0 fun ⟨_,e⟩=>(nomatch e)
mutual
/-- a statement in the heap -/
inductive StR (A:Adr) (N:Addr->Prop) (H:Hp):V->Sc25.St->Prop
 | set {x dx:Addr} {a e:V} {c:Cell} {o:Sc25.Change} {g:Ex}:H x=some (.ins A.qK dx [("variable",a),("sign",.str (sgS o)),("expression",e)])->LsN A N H a (Ma.postC c)->LsN A N H e (Ma.post g)->StR A N H (.ref x) (.set c o g)
 | swap {x dx:Addr} {a b:V} {c d:Cell}:H x=some (.ins A.zN dx [("left",a),("right",b)])->LsN A N H a (Ma.postC c)->LsN A N H b (Ma.postC d)->StR A N H (.ref x) (.swap c d)
 | if_ {x dx:Addr} {c a b d:V} {p q:Nat} {f g:Ex} {l m:List Sc25.St}:H x=some (.ins A.qx dx [("kind",.str "if"),("opening",.int (p:Nat)),("before",c),("first",a),("second",b),("closing",.int (q:Nat)),("behind",d)])->LsN A N H c (Ma.post f)->BkR A N H a l->BkR A N H b m->LsN A N H d (Ma.post g)->StR A N H (.ref x) (.if_ p f l m q g)
 | from_ {x dx:Addr} {c a b d:V} {p q:Nat} {f g:Ex} {l m:List Sc25.St}:H x=some (.ins A.qx dx [("kind",.str "from"),("opening",.int (p:Nat)),("before",c),("first",a),("second",b),("closing",.int (q:Nat)),("behind",d)])->LsN A N H c (Ma.post f)->BkR A N H a l->BkR A N H b m->LsN A N H d (Ma.post g)->StR A N H (.ref x) (.from_ p f l m q g)
 | call {x dx:Addr} {f hs:V} {un:Bool} {p:Nat} {y:Bytes} {args:List (Nat×Bytes)}:H x=some (.ins A.zr dx [("kind",.str (caS un)),("procedure",f),("handed",hs)])->NmR A H f (p,y)->LnR (NmR A) N H hs args->StR A N H (.ref x) (.call un p y args)
 | local_ {x dx:Addr} {nm c a d:V} {p q r:Nat} {y:Bytes} {f g:Ex} {l:List Sc25.St}:H x=some (.ins A.qJ dx [("opening",.int (p:Nat)),("name",nm),("before",c),("block",a),("closing",.int (r:Nat)),("behind",d)])->NmR A H nm (q,y)->LsN A N H c (Ma.post f)->BkR A N H a l->LsN A N H d (Ma.post g)->StR A N H (.ref x) (.local_ p q y f l r g)
 | skip {x dx:Addr}:H x=some (.ins A.z6 dx [])->StR A N H (.ref x) .skip
inductive BkR (A:Adr) (N:Addr->Prop) (H:Hp):V->List Sc25.St->Prop
 | mk {l:Addr} {vs:List V} {xs:List Sc25.St}:N l->H l=some (.lst vs)->SsR A N H vs xs->BkR A N H (.ref l) xs
inductive SsR (A:Adr) (N:Addr->Prop) (H:Hp):List V->List Sc25.St->Prop
 | nil:SsR A N H [] []
 | cons {v:V} {vs:List V} {x:Sc25.St} {xs:List Sc25.St}:StR A N H v x->SsR A N H vs xs->SsR A N H (v :: vs) (x :: xs)
end
mutual
theorem StR.keep {A:Adr} {N N':Addr->Prop} {H H':Hp} (k:zF N H H') (m:∀ l,N l->N' l) {v:V} {x:Sc25.St}:StR A N H v x->StR A N' H' v x
 | .set h a b=>.set (k.ins h (by decide) (by decide)) ((a.keep k).mono m) ((b.keep k).mono m)
 | .swap h a b=>.swap (k.ins h (by decide) (by decide)) ((a.keep k).mono m) ((b.keep k).mono m)
 | .if_ h a b c d=>.if_ (k.ins h (by decide) (by decide)) ((a.keep k).mono m) (b.keep k m) (c.keep k m) ((d.keep k).mono m)
 | .from_ h a b c d=>.from_ (k.ins h (by decide) (by decide)) ((a.keep k).mono m) (b.keep k m) (c.keep k m) ((d.keep k).mono m)
 | .call h a b=>.call (k.ins h (by decide) (by decide)) (a.keep k.keep) ((b.keep k fun _ _ z=>z.keep k.keep).mono m)
 | .local_ h a b c d=>.local_ (k.ins h (by decide) (by decide)) (a.keep k.keep) ((b.keep k).mono m) (c.keep k m) ((d.keep k).mono m)
 | .skip h=>.skip (k.ins0 h)
theorem BkR.keep {A:Adr} {N N':Addr->Prop} {H H':Hp} (k:zF N H H') (m:∀ l,N l->N' l) {v:V} {x:List Sc25.St}:BkR A N H v x->BkR A N' H' v x
 | .mk n h s=>.mk (m _ n) (k.lst n h) (s.keep k m)
theorem SsR.keep {A:Adr} {N N':Addr->Prop} {H H':Hp} (k:zF N H H') (m:∀ l,N l->N' l) {v:List V} {x:List Sc25.St}:SsR A N H v x->SsR A N' H' v x
 | .nil=>.nil
 | .cons s t=>.cons (s.keep k m) (t.keep k m)
end
theorem SsR.snoc {A:Adr} {N:Addr->Prop} {H:Hp} {v:V} {x:Sc25.St} (h:StR A N H v x):∀ {vs:List V} {xs:List Sc25.St},SsR A N H vs xs->SsR A N H (vs++[v]) (xs++[x])
 | _,_,.nil=>.cons h .nil
 | _,_,.cons s t=>.cons s (t.snoc h)
theorem SsR.length {A:Adr} {N:Addr->Prop} {H:Hp}:∀ {vs:List V} {xs:List Sc25.St},SsR A N H vs xs->vs.length=xs.length
 | _,_,.nil=>rfl
 | _,_,.cons s t=>congrArg (· + 1) t.length
def spG {α:Type} (K:PySem.W.Frag) (A:Adr) (n:Int) (F:Toks->Got α) (R:(Addr->Prop)->Hp->V->α->Prop):Sp:=fun vs H Q E=>∃ p sc a b t,vs=[.ref p]/\Ps K A H p sc a b t n /\
 Ma.Out (F t) (fun x t'=>∀ H' v,Kq p sc H H'->Ps K A H' p sc a b t' n->R (fun l=>H l=none) H' v x->Q v H') (Rz E)
section
variable {K:PySem.W.Frag} {A:Adr} {H:Hp} {p sc a:Addr} {b:Bytes} {t:Toks} {n:Int} {Q:VK} {E:XK} {β:Type} {s:String} {QQ:β->Toks->Prop}
theorem Ps.obj (S:Ps K A H p sc a b t n):∃ dp fs,H p=some (.ins A.qg dp fs):=by
 obtain ⟨tk,k,y,r,⟨dp,hp⟩,_⟩:=S.st
 exact ⟨dp,_,hp⟩
theorem qbQ (h:(s:Str) ≠ "name" /\ (s:Str) ≠ "number" /\ (s:Str) ≠ "rest" /\ (s:Str) ≠ "long" /\ (s:Str) ≠ "other" /\ (s:Str) ≠ "end"):(s:Str) ≠ "other" /\ (s:Str) ≠ "end" := ⟨h.2.2.2.2.1,h.2.2.2.2.2⟩
theorem wJ (h:Ma.jR s) {k:Toks->Got β} (S:Ps K A H p sc a b t n) (o:Ma.Out ((Sc25.take_ s t).bind k) QQ (Rz E)) (lg:∀ r,Ma.qG r=true->Ma.Lg (k r))
  (go:∀ r H' y,r.length < t.length->Ma.qG r=false->Ma.Out (k r) QQ (Rz E)->Kq p sc H H'->Ps K A H' p sc a b r n->Q (.ref y) H'):qeb K A [.ref p,.str s] H Q E:=by
 obtain ⟨x,r,rfl,nl,wf⟩:=S.cons
 obtain ⟨n1,n2⟩:=qbQ h.other
 refine ⟨p,sc,a,b,x,r,n,_,rfl,S,n1,fun q=>?_,fun q e=>absurd e (wN q n2),fun q _=>?_⟩
 ·rw [qh1 h nl q] at o
  exact o
 ·rw [qg6 h q] at o
  have o:Ma.Out (k r) QQ (Rz E):=o
  exact ⟨fun hl=>o.lg (lg r hl),fun hl H' y _ kq S'=>go r H' y (by simp) hl o kq S'⟩
theorem qi3 {x:Sc25.Tok×Nat} {r:Toks} (h:Ma.IsKw s) (wf:Ma.Wf x.1) (nl:x.1≠.long) (q:Ma.kindS x.1≠(s:Str)):Sc25.key s (x :: r)=.error (.wrong x.2):=by
 unfold Sc25.key
 obtain ⟨u,v⟩:=x
 rw [h.is wf,decide_eq_false q,if_neg (by decide)]
 exact wV nl
theorem qhY {x:Sc25.Tok×Nat} {r:Toks} (h:Ma.IsKw s) (wf:Ma.Wf x.1) (q:Ma.kindS x.1=(s:Str)):Sc25.key s (x :: r)=.ok r:=by
 unfold Sc25.key
 obtain ⟨u,v⟩:=x
 rw [h.is wf,decide_eq_true q,if_pos rfl]
 rfl
theorem wz {x:Sc25.Tok×Nat} {r:Toks} (h:Ma.IsKw s) (wf:Ma.Wf x.1) (q:Ma.kindS x.1≠(s:Str)):Sc25.isKey s (x :: r)=false:=by
 obtain ⟨u,v⟩:=x
 rw [h.is wf,decide_eq_false q]
theorem yC {x:Sc25.Tok×Nat} {r:Toks} (h:Ma.IsKw s) (wf:Ma.Wf x.1) (q:Ma.kindS x.1=(s:Str)):Sc25.isKey s (x :: r)=true:=by
 obtain ⟨u,v⟩:=x
 rw [h.is wf,decide_eq_true q]
theorem qdP (h:Ma.IsKw s) {k:Toks->Got β} (S:Ps K A H p sc a b t n) (o:Ma.Out ((Sc25.key s t).bind k) QQ (Rz E)) (lg:∀ r,Ma.qG r=true->Ma.Lg (k r))
  (go:∀ r H' y,r.length < t.length->Ma.qG r=false->Ma.Out (k r) QQ (Rz E)->Kq p sc H H'->Ps K A H' p sc a b r n->Q (.ref y) H'):qeb K A [.ref p,.str s] H Q E:=by
 obtain ⟨x,r,rfl,nl,wf⟩:=S.cons
 obtain ⟨n1,n2⟩:=qbQ h.other
 refine ⟨p,sc,a,b,x,r,n,_,rfl,S,n1,fun q=>?_,fun q e=>absurd e (wN q n2),fun q _=>?_⟩
 ·rw [qi3 h wf nl q] at o
  exact o
 ·rw [qhY h wf q] at o
  have o:Ma.Out (k r) QQ (Rz E):=o
  exact ⟨fun hl=>o.lg (lg r hl),fun hl H' y _ kq S'=>go r H' y (by simp) hl o kq S'⟩
theorem Uc (h:Ma.IsKw s) {k:Toks->Got β} (S:Ps K A H p sc a b t n) (o:Ma.Out ((Sc25.key s t).bind k) QQ (Rz E)) (lg:∀ r,Ma.qG r=true->Ma.Lg (k r))
  (go:∀ r H' y vv,jU A H' y (s:Str) vv (Sc25.placeOf t)->r.length < t.length->Ma.qG r=false->Ma.Out (k r) QQ (Rz E)->Kq p sc H H'->Ps K A H' p sc a b r n->Q (.ref y) H'):qeb K A [.ref p,.str s] H Q E:=by
 obtain ⟨x,r,rfl,nl,wf⟩:=S.cons
 obtain ⟨n1,n2⟩:=qbQ h.other
 refine ⟨p,sc,a,b,x,r,n,_,rfl,S,n1,fun q=>?_,fun q e=>absurd e (wN q n2),fun q _=>?_⟩
 ·rw [qi3 h wf nl q] at o
  exact o
 ·rw [qhY h wf q] at o
  have o:Ma.Out (k r) QQ (Rz E):=o
  exact ⟨fun hl=>o.lg (lg r hl),fun hl H' y ty kq S'=>go r H' y _ (by have z:=ty; unfold TokR at z; rw [q] at z; exact z) (by simp) hl o kq S'⟩
theorem Yw {k:(Nat×Bytes)×Toks->Got β} (S:Ps K A H p sc a b t n) (o:Ma.Out ((Sc25.aName t).bind k) QQ (Rz E)) (lg:∀ x r,Ma.qG r=true->Ma.Lg (k (x,r)))
  (go:∀ x r H' v,r.length < t.length->Ma.qG r=false->Ma.Out (k (x,r)) QQ (Rz E)->NmR A H' v x->Kq p sc H H'->Ps K A H' p sc a b r n->Q v H'):qeb K A [.ref p,.str "name"] H Q E:=by
 obtain ⟨x,r,rfl,nl,wf⟩:=S.cons
 refine ⟨p,sc,a,b,x,r,n,_,rfl,S,by decide,fun q=>?_,fun q e=>absurd e (wN q (by decide)),fun q _=>?_⟩
 ·rw [(Ma.Uo wf).2 q,wV nl] at o
  exact o
 ·obtain ⟨wd,ex,en⟩:=(Ma.Uo (p:=x.2) (r:=r) wf).1 q
  have en:Sc25.aName (x :: r)=.ok ((x.2,wd),r):=en
  rw [en] at o
  have o:Ma.Out (k ((x.2,wd),r)) QQ (Rz E):=o
  refine ⟨fun hl=>o.lg (lg _ r hl),fun hl H' y ty kq S'=>go (x.2,wd) r H' (.ref y) (by simp) hl o ⟨y,rfl,?_⟩ kq S'⟩
  have z:=ty
  unfold TokR at z
  rw [q,ex] at z
  exact z
theorem qcr (h:Ma.jR s) (S:Ps K A H p sc a b t n) (no:Sc25.is_ s t=false->Q (.bl false) H)
  (yes:∀ r,Sc25.is_ s t=true->t.drop 1=r->r.length < t.length->(Ma.qG r=true->Rz E .full)/\(Ma.qG r=false->∀ H',Kq p sc H H'->Ps K A H' p sc a b r n->Q (.bl true) H')):qgR K A [.ref p,.str s] H Q E:=by
 obtain ⟨x,r,rfl,nl,wf⟩:=S.cons
 obtain ⟨n1,n2⟩:=qbQ h.other
 refine ⟨p,sc,a,b,x,r,n,_,rfl,S,n1,n2,fun q=>no (Qi h q),fun q=>?_⟩
 obtain ⟨y1,y2⟩:=yes r (Z5 h q) rfl (by simp)
 exact ⟨y1,fun hl H' _ _ kq S'=>y2 hl H' kq S'⟩
theorem qle (h:Ma.IsKw s) (S:Ps K A H p sc a b t n) (no:Sc25.isKey s t=false->Q (.bl false) H)
  (yes:∀ r,Sc25.isKey s t=true->t.drop 1=r->r.length < t.length->(Ma.qG r=true->Rz E .full)/\(Ma.qG r=false->∀ H',Kq p sc H H'->Ps K A H' p sc a b r n->Q (.bl true) H')):qgR K A [.ref p,.str s] H Q E:=by
 obtain ⟨x,r,rfl,nl,wf⟩:=S.cons
 obtain ⟨n1,n2⟩:=qbQ h.other
 refine ⟨p,sc,a,b,x,r,n,_,rfl,S,n1,n2,fun q=>no (wz h wf q),fun q=>?_⟩
 obtain ⟨y1,y2⟩:=yes r (yC h wf q) rfl (by simp)
 exact ⟨y1,fun hl H' _ _ kq S'=>y2 hl H' kq S'⟩
end
end Pg
namespace Pg
open PySem PySem.Spec PyProof.Rows L2 Xc
open Sc25 (Bytes Toks Bad Got Ex Cell Decl Proc Prog)
open Ma (PT)
theorem qg2:Ma.jR "," := ⟨by decide +kernel,by decide +kernel,by decide +kernel,by decide +kernel⟩
theorem Ue:Ma.jR ";" := ⟨by decide +kernel,by decide +kernel,by decide +kernel,by decide +kernel⟩
theorem Kp.free2 {K:PySem.W.Frag} {A:Adr} {H H1:Hp} {p sc a l:Addr} {b:Bytes} {t:Toks} {n:Int} (k:Kq p sc H H1) (S:Ps K A H1 p sc a b t n) (h:H1 l=none):H l=none:=k.free h (S.notps h)
theorem arg1 {v:V} {σ:L2.St} {H:Hp} {F:List V->Hp->Prop} (h:F [v] H):tCons (tC v) tNil σ H F:=h
theorem arg0 {σ:L2.St} {H:Hp} {F:List V->Hp->Prop} (h:F [] H):tNil σ H F:=h
section
variable {P:Program} {w:World} {K:PySem.W.Frag} {mg:Str->Option Value} {base:Heap} {A:Adr}
theorem qju (T:Txt K mg A) (B:Tbl P w K A) (n:Int):Ok P w K mg base (CXr P w K A.qi) 8 A.qT ["self"] (spG K A n Ma.qbo fun _=>DcR A zP):=by
 obtain ⟨fd,F,bi⟩:=T.J3
 obtain ⟨f1,G1,b1⟩:=j7 (P:=P) (w:=w) (base:=base) T B
 obtain ⟨f2,G2,b2⟩:=qaq (P:=P) (w:=w) (base:=base) T B
 obtain ⟨f3,G3,b3⟩:=qbF (P:=P) (w:=w) (base:=base) T
 refine ⟨fd,F.okR JN (fun vs H Q E h=>?_) (fun cdv AA outer s H vs Q E hr h=>?_),bi⟩
 ·obtain ⟨p,sc,a,b,t,rfl,_⟩:=h
  rfl
 ·obtain ⟨p,sc,a,b,t,rfl,S,o⟩:=h
  have nd:=JN.nd
  have hr6:=hr.mono (show 6<=7 by decide)
  have hr2:=hr.mono (show 2<=7 by decide)
  refine ⟨_,pss_cons (ps_set (i:=1) nd rfl (Or.inl rfl) (pe_meth (pv 0) T.qe T.ql G1 hr6 b1 .nil qw (pa_cons pe_str pa_nil)))
   (pss_cons (ps_if (pt_not (pt_val (pe_meth (pv 0) T.qe T.wj G2 hr b2 .nil qw (pa_cons pe_str pa_nil)))) (pss_one (ps_ret (pe_make T.V8 G3 hr2 rfl T.VM b3 .nil pass0 (pa_cons (pv 1) (pa_cons pe_bl (pa_cons pe_non (pa_cons pe_non pa_nil))))))) pss_nil)
   (pss_cons (ps_expr (pe_meth (pv 0) T.qe T.ql G1 hr6 b1 .nil qw (pa_cons pe_str pa_nil)))
   (pss_one (ps_ret (pe_make T.V8 G3 hr2 rfl T.VM b3 .nil pass0 (pa_cons (pv 1) (pa_cons pe_bl (pa_cons pe_non (pa_cons pe_non pa_nil))))))))),?_⟩
  refine S.obE fun dp fs hp=>?_
  unfold Ma.qbo at o
  refine me0 rfl hp rfl (arg1 (Yw S o (fun x r hl=>?_) fun x r H1 v lr hl1 o1 nm1 k1 S1=>?_))
  ·show Ma.Lg (if Sc25.is_ "[" r=true then _ else _)
   rw [Ma.jW hl]
   exact .ok hl
  have o1:Ma.Out (if Sc25.is_ "[" r=true then (Sc25.take_ "]" (r.drop 1)).map fun r=>((⟨x.1,x.2,some 0⟩:Decl),r) else .ok (⟨x.1,x.2,none⟩,r)) _ _:=o1
  refine S1.obE fun dp1 fs1 hp1=>?_
  refine me0 rfl hp1 rfl (arg1 (qcr qiU S1 (fun q=>?_) fun r2 q er lr2=>⟨fun hl2=>?_,fun hl2 H2 k2 S2=>?_⟩))
  ·rw [q] at o1
   have o1:Ma.Out (.ok ((⟨x.1,x.2,none⟩:Decl),r)) _ _:=o1
   refine ⟨_,rfl,_,rfl,fun z dz nz ndz nez=>⟨z,dz,_,rfl,rfl,upd_same,rfl,?_⟩⟩
   refine (o1.ok hl1) _ _ (k1.trans (Kp.made nz ndz)) (S1.made nz ndz) ⟨z,(dz,.non),v,.non,rfl,upd_same,nm1.keep (Qj nz ndz),rfl⟩
  ·rw [q,er] at o1
   have o1:Ma.Out ((Sc25.take_ "]" r2).map fun r=>((⟨x.1,x.2,some 0⟩:Decl),r)) _ _:=o1
   rw [Ma.jN hl2] at o1
   exact o1
  ·rw [q,er] at o1
   have o1:Ma.Out ((Sc25.take_ "]" r2).map fun r=>((⟨x.1,x.2,some 0⟩:Decl),r)) _ _:=o1
   rw [Ma.jB] at o1
   refine S2.obE fun dp2 fs2 hp2=>?_
   refine ⟨_,rfl,me0 rfl hp2 rfl (arg1 (wJ qiW S2 o1 (fun r hl=>.ok hl) fun r3 H3 y lr3 hl3 o3 k3 S3=>?_))⟩
   refine ⟨_,rfl,fun z dz nz ndz nez=>⟨z,dz,_,rfl,rfl,upd_same,rfl,?_⟩⟩
   exact (o3.ok hl3) _ _ (((k1.trans k2).trans k3).trans (Kp.made nz ndz)) (S3.made nz ndz) ⟨z,(dz,.non),v,.non,rfl,upd_same,((nm1.keep (S1.keeps k2)).keep (S2.keeps k3)).keep (Qj nz ndz),rfl⟩
end
end Pg
namespace Pg
open PySem PySem.Spec PyProof.Rows L2 Xc
open Sc25 (Bytes Toks Bad Got Ex Cell Decl Proc Prog)
open Ma (PT)
section
variable {P:Program} {w:World} {K:PySem.W.Frag} {mg:Str->Option Value} {base:Heap} {A:Adr}
def pmT (t:Toks):Got (List Decl):=if Sc25.is_ ")" t=true then .ok ([],t) else Ma.Pm t
theorem qiP (T:Txt K mg A) (B:Tbl P w K A) (n:Int):Ok P w K mg base (CXr P w K A.qi) 9 A.qN ["self"] (spG K A n pmT (LnR (DcR A zP))):=by
 obtain ⟨fd,F,bi⟩:=T.JC
 obtain ⟨f1,G1,b1⟩:=qju (P:=P) (w:=w) (base:=base) T B n
 obtain ⟨f2,G2,b2⟩:=qaq (P:=P) (w:=w) (base:=base) T B
 refine ⟨fd,F.okR JD (fun vs H Q E h=>?_) (fun cdv AA outer s H vs Q E hr h=>?_),bi⟩
 ·obtain ⟨p,sc,a,b,t,rfl,_⟩:=h
  rfl
 ·obtain ⟨p,sc,a,b,t,rfl,S,o⟩:=h
  have nd:=JD.nd
  have hr7:=hr.mono (show 7<=8 by decide)
  refine ⟨_,pss_cons (ps_if (pt_cmpR op_eq (pe_fld (pe_fld (pv 0) rfl) rfl) pe_str (nomark _)) (pss_one (ps_ret (pe_lst pa_nil))) pss_nil)
   (pss_cons (ps_set (i:=1) nd rfl (Or.inl rfl) (pe_lst (pa_cons (pe_meth0 (pv 0) T.qe T.yX G1 hr b1 .nil qw) pa_nil)))
   (pss_cons (ps_while qbn (pt_val (pe_meth (pv 0) T.qe T.wj G2 hr7 b2 .nil qw (pa_cons pe_str pa_nil)))
    (pss_one (ps_expr (pe_bm PySem.F.plainAttrs_list PySem.F.slot_list_append PySem.F.type_list_append mt_append (pv 1) (pa_cons (pe_meth0 (pv 0) T.qe T.yX G1 hr b1 .nil qw) pa_nil)))))
   (pss_one (ps_ret (pv 1))))),?_⟩
  obtain ⟨x,r,et,nl,wf⟩:=S.cons
  have S':=S
  rw [et] at S'
  obtain ⟨tk,dp,dt,hp,hdt⟩:=S'.tok
  have lt:=S.sz
  refine ⟨_,rfl,p,_,dp,_,_,rfl,hp,T.qe,T.za,rfl,tk,_,_,_,_,rfl,hdt,T.qy,T.zb,rfl,rfl,_,rfl,ite2 (fun z=>?_) fun z=>?_⟩
  ·have z:=Ja z
   unfold pmT at o
   rw [et,Z5 qcM z] at o
   have o:Ma.Out (.ok (([]:List Decl),x :: r)) _ _:=o
   rw [<- et] at o
   refine ⟨Nat.zero_le _,fun l hl=>(o.ok S.long) _ _ (Kp.new hl) (S.new hl) ⟨l,[],rfl,hl,upd_same,.nil⟩⟩
  have z:=Jc z
  have e0:pmT t=Ma.Pm t:=by
   unfold pmT
   rw [et,Qi qcM z]
   rfl
  rw [e0,Ma.qiV] at o
  refine me0 rfl hp rfl ⟨p,sc,a,b,t,rfl,S,(o.bind fun e r hl=>?_).imp (fun e t1 e1 hl1 o1 H1 v k1 S1 d1=>?_) fun _ z=>z⟩
  ·show Ma.Lg (Ma.SepT Ma.Pm [e] r)
   rw [Ma.qcp (Ma.jW hl _)]
   exact .ok hl
  refine ⟨(by show 1<=sizeLine; decide),fun l hl=>?_⟩
  have fl:H l=none:=Kp.free2 k1 S1 hl
  have l1:=Ma.Gy e1
  have l1:t1.length < t.length:=l1
  refine ⟨fun m σ H'=>∃ acc t' vs,σ=[some (.ref p),some (.ref l)]/\Kq p sc H H'/\Ps K A H' p sc a b t' n/\H' l=some (.lst vs)/\Paired (DcR A zP H') vs acc/\vs.length+t'.length<=t.length /\
   Ma.Out (Ma.SepT Ma.Pm acc t') (fun x t'=>∀ H' v,Kq p sc H H'->Ps K A H' p sc a b t' n->LnR (DcR A zP) (fun l=>H l=none) H' v x->Q v H') (Rz E)/\m=t'.length,
   ⟨_,[e],t1,[v],rfl,k1.trans (Kp.new hl),S1.new hl,upd_same,.cons (d1.keep (zF.new (N:=fun _=>True) hl)) .nil,by simp; omega,o1,rfl⟩,?_⟩
  rintro m σ H2 ⟨acc,t2,vs,rfl,k2,S2,hl2,pr2,lv,o2,rfl⟩
  refine S2.obE fun dp2 tk2 hp2=>?_
  refine me0 rfl hp2 rfl (arg1 (qcr qg2 S2 (fun q=>?_) fun r3 q er lr3=>⟨fun hl3=>?_,fun hl3 H3 k3 S3=>?_⟩))
  ·rw [Ma.qcp q] at o2
   exact ⟨_,rfl,_,rfl,(o2.ok S2.long) _ _ k2 S2 ⟨l,vs,rfl,fl,hl2,pr2⟩⟩
  ·rw [Ma.qcN Ma.qiV q,er,Ma.qjU hl3] at o2
   exact o2
  ·rw [Ma.qcN Ma.qiV q,er] at o2
   refine ⟨_,rfl,fun σ' H'=>∃ m',m' < t2.length/\∃ acc t' vs,σ'=[some (.ref p),some (.ref l)]/\Kq p sc H H'/\Ps K A H' p sc a b t' n/\H' l=some (.lst vs)/\Paired (DcR A zP H') vs acc/\vs.length+t'.length<=t.length /\
    Ma.Out (Ma.SepT Ma.Pm acc t') (fun x t'=>∀ H' v,Kq p sc H H'->Ps K A H' p sc a b t' n->LnR (DcR A zP) (fun l=>H l=none) H' v x->Q v H') (Rz E)/\m'=t'.length,fun _ _ z=>z,?_⟩
   have hl4:=S2.keep k3 hl2 (Other.lst _)
   refine S3.obE fun dp3 tk3 hp3=>?_
   refine ⟨_,rfl,.inl ⟨rfl,_,SqL.of hl4⟩,me0 rfl hp3 rfl ⟨p,sc,a,b,r3,rfl,S3,(o2.bind fun e r hl=>?_).imp (fun e5 t5 e5' hl5 o5 H5 v5 k5 S5 d5=>?_) fun _ z=>z⟩⟩
   ·show Ma.Lg (Ma.SepT Ma.Pm (acc++[e]) r)
    rw [Ma.qcp (Ma.jW hl _)]
    exact .ok hl
   have hl5:=S3.keep k5 hl4 (Other.lst _)
   have l5:=Ma.Gy e5'
   have l5:t5.length < r3.length:=l5
   have k6:Kq p sc H (upd H5 l (.lst (vs++[v5]))):=((k2.trans k3).trans k5).fresh fl
   refine ⟨l,vs,_,rfl,rfl,hl5,Nat.lt_of_le_of_lt (show vs.length<=200000 by omega) (by decide),t5.length,by omega,acc++[e5],t5,vs++[v5],rfl,k6,S5.list hl5 (S.text k6),upd_same,?_,by simp; omega,o5,rfl⟩
   have KN:zF (fun x=>x≠l) H5 (upd H5 l (.lst (vs++[v5]))):=zF.upd hl5 (fun q=>q rfl)
   exact Vz (Paired.mapP pr2 fun _ _ z=>((z.keep (N:=fun _=>True) (S2.jC k3)).keep (N:=fun _=>True) (S3.jC k5)).keep KN) (d5.keep KN)
end
end Pg
namespace Pg
open PySem PySem.Spec PyProof.Rows L2 Xc
open Sc25 (Bytes Toks Bad Got Ex Cell Decl Proc Prog)
open Ma (PT)
theorem qol:Ma.IsKw "int" := ⟨by decide +kernel,by decide +kernel,by decide +kernel,by decide +kernel⟩
def nmT (t:Toks):Got (List (Nat×Bytes)):=if Sc25.is_ ")" t=true then .ok ([],t) else Ma.Nm t
section
variable {P:Program} {w:World} {K:PySem.W.Frag} {mg:Str->Option Value} {base:Heap} {A:Adr}
theorem qlp (T:Txt K mg A) (B:Tbl P w K A) (n:Int):Ok P w K mg base (CXr P w K A.qi) 8 A.zq ["self"] (spG K A n nmT (LnR (NmR A))):=by
 obtain ⟨fd,F,bi⟩:=T.Gk
 obtain ⟨f1,G1,b1⟩:=j7 (P:=P) (w:=w) (base:=base) T B
 obtain ⟨f2,G2,b2⟩:=qaq (P:=P) (w:=w) (base:=base) T B
 refine ⟨fd,F.okR Gu (fun vs H Q E h=>?_) (fun cdv AA outer s H vs Q E hr h=>?_),bi⟩
 ·obtain ⟨p,sc,a,b,t,rfl,_⟩:=h
  rfl
 ·obtain ⟨p,sc,a,b,t,rfl,S,o⟩:=h
  have nd:=Gu.nd
  have hr6:=hr.mono (show 6<=7 by decide)
  refine ⟨_,pss_cons (ps_if (pt_cmpR op_eq (pe_fld (pe_fld (pv 0) rfl) rfl) pe_str (nomark _)) (pss_one (ps_ret (pe_lst pa_nil))) pss_nil)
   (pss_cons (ps_set (i:=1) nd rfl (Or.inl rfl) (pe_lst (pa_cons (pe_meth (pv 0) T.qe T.ql G1 hr6 b1 .nil qw (pa_cons pe_str pa_nil)) pa_nil)))
   (pss_cons (ps_while qbn (pt_val (pe_meth (pv 0) T.qe T.wj G2 hr b2 .nil qw (pa_cons pe_str pa_nil)))
    (pss_one (ps_expr (pe_bm PySem.F.plainAttrs_list PySem.F.slot_list_append PySem.F.type_list_append mt_append (pv 1) (pa_cons (pe_meth (pv 0) T.qe T.ql G1 hr6 b1 .nil qw (pa_cons pe_str pa_nil)) pa_nil)))))
   (pss_one (ps_ret (pv 1))))),?_⟩
  obtain ⟨x,r,et,nl,wf⟩:=S.cons
  have S':=S
  rw [et] at S'
  obtain ⟨tk,dp,dt,hp,hdt⟩:=S'.tok
  have lt:=S.sz
  refine ⟨_,rfl,p,_,dp,_,_,rfl,hp,T.qe,T.za,rfl,tk,_,_,_,_,rfl,hdt,T.qy,T.zb,rfl,rfl,_,rfl,ite2 (fun z=>?_) fun z=>?_⟩
  ·have z:=Ja z
   unfold nmT at o
   rw [et,Z5 qcM z] at o
   have o:Ma.Out (.ok (([]:List (Nat×Bytes)),x :: r)) _ _:=o
   rw [<- et] at o
   refine ⟨Nat.zero_le _,fun l hl=>(o.ok S.long) _ _ (Kp.new hl) (S.new hl) ⟨l,[],rfl,hl,upd_same,.nil⟩⟩
  have z:=Jc z
  have e0:nmT t=Ma.Nm t:=by
   unfold nmT
   rw [et,Qi qcM z]
   rfl
  rw [e0,Ma.qkV] at o
  refine me0 rfl hp rfl (arg1 (Yw S o (fun e r hl=>?_) fun e t1 H1 v l1 hl1 o1 d1 k1 S1=>?_))
  ·show Ma.Lg (Ma.NmT [e] r)
   rw [Ma.qhN (Ma.jW hl _)]
   exact .ok hl
  refine ⟨(by show 1<=sizeLine; decide),fun l hl=>?_⟩
  have fl:H l=none:=Kp.free2 k1 S1 hl
  refine ⟨fun m σ H'=>∃ acc t' vs,σ=[some (.ref p),some (.ref l)]/\Kq p sc H H'/\Ps K A H' p sc a b t' n/\H' l=some (.lst vs)/\Paired (NmR A H') vs acc/\vs.length+t'.length<=t.length /\
   Ma.Out (Ma.NmT acc t') (fun x t'=>∀ H' v,Kq p sc H H'->Ps K A H' p sc a b t' n->LnR (NmR A) (fun l=>H l=none) H' v x->Q v H') (Rz E)/\m=t'.length,
   ⟨_,[e],t1,[v],rfl,k1.trans (Kp.new hl),S1.new hl,upd_same,.cons (d1.keep (UT hl)) .nil,by simp; omega,o1,rfl⟩,?_⟩
  rintro m σ H2 ⟨acc,t2,vs,rfl,k2,S2,hl2,pr2,lv,o2,rfl⟩
  refine S2.obE fun dp2 tk2 hp2=>?_
  refine me0 rfl hp2 rfl (arg1 (qcr qg2 S2 (fun q=>?_) fun r3 q er lr3=>⟨fun hl3=>?_,fun hl3 H3 k3 S3=>?_⟩))
  ·rw [Ma.qhN q] at o2
   exact ⟨_,rfl,_,rfl,(o2.ok S2.long) _ _ k2 S2 ⟨l,vs,rfl,fl,hl2,pr2⟩⟩
  ·rw [Ma.qi6 q,er,Ma.Qm hl3] at o2
   exact o2
  ·rw [Ma.qi6 q,er] at o2
   refine ⟨_,rfl,fun σ' H'=>∃ m',m' < t2.length/\∃ acc t' vs,σ'=[some (.ref p),some (.ref l)]/\Kq p sc H H'/\Ps K A H' p sc a b t' n/\H' l=some (.lst vs)/\Paired (NmR A H') vs acc/\vs.length+t'.length<=t.length /\
    Ma.Out (Ma.NmT acc t') (fun x t'=>∀ H' v,Kq p sc H H'->Ps K A H' p sc a b t' n->LnR (NmR A) (fun l=>H l=none) H' v x->Q v H') (Rz E)/\m'=t'.length,fun _ _ z=>z,?_⟩
   have hl4:=S2.keep k3 hl2 (Other.lst _)
   refine S3.obE fun dp3 tk3 hp3=>?_
   refine ⟨_,rfl,.inl ⟨rfl,_,SqL.of hl4⟩,me0 rfl hp3 rfl (arg1 (Yw S3 o2 (fun e r hl=>?_) fun e5 t5 H5 v5 l5 hl5 o5 d5 k5 S5=>?_))⟩
   ·show Ma.Lg (Ma.NmT (acc++[e]) r)
    rw [Ma.qhN (Ma.jW hl _)]
    exact .ok hl
   have hl5:=S3.keep k5 hl4 (Other.lst _)
   have k6:Kq p sc H (upd H5 l (.lst (vs++[v5]))):=((k2.trans k3).trans k5).fresh fl
   refine ⟨l,vs,_,rfl,rfl,hl5,Nat.lt_of_le_of_lt (show vs.length<=200000 by omega) (by decide),t5.length,by omega,acc++[e5],t5,vs++[v5],rfl,k6,S5.list hl5 (S.text k6),upd_same,?_,by simp; omega,o5,rfl⟩
   have KN:=wI (ys:=vs++[v5]) hl5
   exact Vz (Paired.mapP pr2 fun _ _ z=>((z.keep (S2.keeps k3)).keep (S3.keeps k5)).keep KN) (d5.keep KN)
theorem qlB (T:Txt K mg A) (B:Tbl P w K A) (n:Int):Ok P w K mg base (CXr P w K A.qi) 8 A.zA ["self"] (spG K A n Ma.qbh fun _=>DcR A zG):=by
 obtain ⟨fd,F,bi⟩:=T.Gs
 obtain ⟨f1,G1,b1⟩:=j7 (P:=P) (w:=w) (base:=base) T B
 obtain ⟨f2,G2,b2⟩:=qaq (P:=P) (w:=w) (base:=base) T B
 obtain ⟨f3,G3,b3⟩:=qbF (P:=P) (w:=w) (base:=base) T
 refine ⟨fd,F.okR Gq (fun vs H Q E h=>?_) (fun cdv AA outer s H vs Q E hr h=>?_),bi⟩
 ·obtain ⟨p,sc,a,b,t,rfl,_⟩:=h
  rfl
 ·obtain ⟨p,sc,a,b,t,rfl,S,o⟩:=h
  have nd:=Gq.nd
  have hr6:=hr.mono (show 6<=7 by decide)
  have hr2:=hr.mono (show 2<=7 by decide)
  refine ⟨_,pss_cons (ps_set (i:=1) nd rfl (Or.inl rfl) (pe_meth (pv 0) T.qe T.ql G1 hr6 b1 .nil qw (pa_cons pe_str pa_nil)))
   (pss_cons (ps_if (pt_not (pt_val (pe_meth (pv 0) T.qe T.wj G2 hr b2 .nil qw (pa_cons pe_str pa_nil)))) (pss_one (ps_ret (pe_make T.V8 G3 hr2 rfl T.VM b3 .nil pass0 (pa_cons (pv 1) (pa_cons pe_bl (pa_cons pe_int (pa_cons pe_non pa_nil))))))) pss_nil)
   (pss_cons (ps_set (i:=2) nd rfl (Or.inl rfl) (pe_meth (pv 0) T.qe T.ql G1 hr6 b1 .nil qw (pa_cons pe_str pa_nil)))
   (pss_cons (ps_expr (pe_meth (pv 0) T.qe T.ql G1 hr6 b1 .nil qw (pa_cons pe_str pa_nil)))
   (pss_one (ps_ret (pe_make T.V8 G3 hr2 rfl T.VM b3 .nil pass0 (pa_cons (pv 1) (pa_cons pe_bl (pa_cons (pe_fld (pv 2) rfl) (pa_cons (pv 2) pa_nil)))))))))),?_⟩
  refine S.obE fun dp fs hp=>?_
  unfold Ma.qbh at o
  refine me0 rfl hp rfl (arg1 (Yw S o (fun x r hl=>?_) fun x r H1 v lr hl1 o1 nm1 k1 S1=>?_))
  ·show Ma.Lg (if Sc25.is_ "[" r=true then _ else _)
   rw [Ma.jW hl]
   exact .ok hl
  refine S1.obE fun dp1 fs1 hp1=>?_
  refine me0 rfl hp1 rfl (arg1 (qcr qiU S1 (fun q=>?_) fun r2 q er lr2=>⟨fun hl2=>?_,fun hl2 H2 k2 S2=>?_⟩))
  ·dsimp only at o1
   rw [q] at o1
   have o1:Ma.Out (.ok ((⟨x.1,x.2,none⟩:Decl),r)) _ _:=o1
   refine ⟨_,rfl,_,rfl,fun z dz nz ndz nez=>⟨z,dz,_,rfl,rfl,upd_same,rfl,?_⟩⟩
   refine (o1.ok hl1) _ _ (k1.trans (Kp.made nz ndz)) (S1.made nz ndz) ⟨z,(dz,.non),v,_,rfl,upd_same,nm1.keep (Qj nz ndz),rfl⟩
  ·dsimp only at o1
   rw [q,er] at o1
   obtain ⟨q1,r1,rfl⟩:=Ma.Zz hl2
   exact o1
  ·dsimp only at o1
   rw [q,er] at o1
   obtain ⟨x2,r2',rfl,nl2,wf2⟩:=S2.cons
   refine S2.obE fun dp2 fs2 hp2=>?_
   refine ⟨_,rfl,me0 rfl hp2 rfl ⟨p,sc,a,b,x2,r2',_,"number",rfl,S2,by decide,fun q2=>?_,fun q2 y=>absurd y (wN q2 (by decide)),fun q2 _=>?_⟩⟩
   ·obtain ⟨u2,v2⟩:=x2
    have hn:∀ m,u2≠.num m:=fun m e=>q2 (by rw [e]; rfl)
    have e2:Ma.Out (Sc25.fail ((u2,v2) :: r2'):Got Decl) (fun x t'=>∀ H' v,Kq p sc H H'->Ps K A H' p sc a b t' n->DcR A zG H' v x->Q v H') (Rz E):=by
     cases u2 with
     | num m=>exact absurd rfl (hn m)
     | _=>exact o1
    rw [wV nl2] at e2
    exact e2
   ·obtain ⟨m,ex⟩:=(Ma.qjv wf2).mp q2
    obtain ⟨u2,v2⟩:=x2
    have ex:u2=.num m:=ex
    subst ex
    have o2:Ma.Out ((Sc25.take_ "]" r2').map fun r=>((⟨x.1,x.2,some m⟩:Decl),r)) (fun x t'=>∀ H' v,Kq p sc H H'->Ps K A H' p sc a b t' n->DcR A zG H' v x->Q v H') (Rz E):=o1
    refine ⟨fun hl3=>?_,fun hl3 H3 y ty k3 S3=>?_⟩
    ·rw [Ma.jN hl3] at o2
     exact o2
    have ty:jU A H3 y "number" (.int (m:Nat)) v2:=ty
    obtain ⟨dy,hy⟩:=id ty
    rw [Ma.jB] at o2
    refine S3.obE fun dp3 fs3 hp3=>?_
    refine me0 rfl hp3 rfl (arg1 (wJ qiW S3 o2 (fun r hl=>.ok hl) fun r4 H4 y4 lr4 hl4 o4 k4 S4=>?_))
    obtain ⟨dy4,hy4⟩:=ty.keep (S3.keeps k4)
    refine ⟨_,rfl,_,rfl,y,_,_,_,_,rfl,hy4,T.qy,T.zV,rfl,_,rfl,fun z dz nz ndz nez=>⟨z,dz,_,rfl,rfl,upd_same,rfl,?_⟩⟩
    exact (o4.ok hl4) _ _ ((((k1.trans k2).trans k3).trans k4).trans (Kp.made nz ndz)) (S4.made nz ndz) ⟨z,(dz,.ref y),v,_,rfl,upd_same,(((nm1.keep (S1.keeps k2)).keep (S2.keeps k3)).keep (S3.keeps k4)).keep (Qj nz ndz),rfl⟩
end
end Pg
namespace Pg
open PySem PySem.Spec PyProof.Rows L2 Xc
open Sc25 (Bytes Toks Bad Got Ex Cell Decl Proc Prog)
open Ma (PT)
section
variable {P:Program} {w:World} {K:PySem.W.Frag} {mg:Str->Option Value} {base:Heap} {A:Adr}
theorem qkn (T:Txt K mg A) (B:Tbl P w K A) (n:Int):Ok P w K mg base (CXr P w K A.qi) 9 A.zj ["self"] (spG K A n Ma.GC (LnR (DcR A zG))):=by
 obtain ⟨fd,F,bi⟩:=T.V9
 obtain ⟨f1,G1,b1⟩:=qlB (P:=P) (w:=w) (base:=base) T B n
 obtain ⟨f2,G2,b2⟩:=qaq (P:=P) (w:=w) (base:=base) T B
 obtain ⟨f3,G3,b3⟩:=j7 (P:=P) (w:=w) (base:=base) T B
 refine ⟨fd,F.okR V2 (fun vs H Q E h=>?_) (fun cdv AA outer s H vs Q E hr h=>?_),bi⟩
 ·obtain ⟨p,sc,a,b,t,rfl,_⟩:=h
  rfl
 ·obtain ⟨p,sc,a,b,t,rfl,S,o⟩:=h
  have nd:=V2.nd
  have hr7:=hr.mono (show 7<=8 by decide)
  have hr6:=hr.mono (show 6<=8 by decide)
  refine ⟨_,pss_cons (ps_if (pt_not (pt_val (pe_meth (pv 0) T.qe T.wj G2 hr7 b2 .nil qw (pa_cons pe_str pa_nil)))) (pss_one (ps_ret (pe_lst pa_nil))) pss_nil)
   (pss_cons (ps_set (i:=1) nd rfl (Or.inl rfl) (pe_lst (pa_cons (pe_meth0 (pv 0) T.qe T.Q5 G1 hr b1 .nil qw) pa_nil)))
   (pss_cons (ps_while qbn (pt_val (pe_meth (pv 0) T.qe T.wj G2 hr7 b2 .nil qw (pa_cons pe_str pa_nil)))
    (pss_one (ps_expr (pe_bm PySem.F.plainAttrs_list PySem.F.slot_list_append PySem.F.type_list_append mt_append (pv 1) (pa_cons (pe_meth0 (pv 0) T.qe T.Q5 G1 hr b1 .nil qw) pa_nil)))))
   (pss_cons (ps_expr (pe_meth (pv 0) T.qe T.ql G3 hr6 b3 .nil qw (pa_cons pe_str pa_nil)))
   (pss_one (ps_ret (pv 1)))))),?_⟩
  have lt:=S.sz
  refine S.obE fun dp0 fs0 hp0=>?_
  unfold Ma.GC at o
  refine me0 rfl hp0 rfl (arg1 (qle qol S (fun q=>?_) fun t0 q er lr0=>?_))
  ·rw [q] at o
   have o:Ma.Out (.ok (([]:List Decl),t)) _ _:=o
   exact ⟨_,rfl,Nat.zero_le _,fun l hl=>(o.ok S.long) _ _ (Kp.new hl) (S.new hl) ⟨l,[],rfl,hl,upd_same,.nil⟩⟩
  rw [q,er] at o
  have o:Ma.Out ((Ma.Dc t0).bind fun x=>(Sc25.take_ ";" x.2).map fun r=>(x.1,r)) _ _:=o
  rw [Ma.qkx,Ma.bind_assoc] at o
  refine ⟨fun hl0=>?_,fun hl0 H0 k0 S0=>?_⟩
  ·rw [Ma.qj3 hl0] at o
   exact o
  refine S0.obE fun dp fs hp=>?_
  have lgs:∀ (acc:List Decl) (r:Toks),Ma.qG r=true->Ma.Lg ((Ma.SepT Ma.Dc acc r).bind fun x=>(Sc25.take_ ";" x.2).map fun r=>(x.1,r)):=fun acc r hl=>by
   rw [Ma.qcp (Ma.jW hl _)]
   show Ma.Lg ((Sc25.take_ ";" r).map _)
   rw [Ma.jN hl]
   exact .err
  refine ⟨_,rfl,me0 rfl hp rfl ⟨p,sc,a,b,t0,rfl,S0,(o.bind fun e r hl=>lgs [e] r hl).imp (fun e t1 e1 hl1 o1 H1 v k1 S1 d1=>?_) fun _ z=>z⟩⟩
  refine ⟨(by show 1<=sizeLine; decide),fun l hl=>?_⟩
  have fl:H l=none:=Kp.free2 (k0.trans k1) S1 hl
  have l1:=Ma.Gm e1
  have l1:t1.length < t0.length:=l1
  refine ⟨fun m σ H'=>∃ acc t' vs,σ=[some (.ref p),some (.ref l)]/\Kq p sc H H'/\Ps K A H' p sc a b t' n/\H' l=some (.lst vs)/\Paired (DcR A zG H') vs acc/\vs.length+t'.length<=t.length /\
   Ma.Out ((Ma.SepT Ma.Dc acc t').bind fun x=>(Sc25.take_ ";" x.2).map fun r=>(x.1,r)) (fun x t'=>∀ H' v,Kq p sc H H'->Ps K A H' p sc a b t' n->LnR (DcR A zG) (fun l=>H l=none) H' v x->Q v H') (Rz E)/\m=t'.length,
   ⟨_,[e],t1,[v],rfl,(k0.trans k1).trans (Kp.new hl),S1.new hl,upd_same,.cons (d1.keep (zF.new (N:=fun _=>True) hl)) .nil,by simp; omega,o1,rfl⟩,?_⟩
  rintro m σ H2 ⟨acc,t2,vs,rfl,k2,S2,hl2,pr2,lv,o2,rfl⟩
  refine S2.obE fun dp2 tk2 hp2=>?_
  refine me0 rfl hp2 rfl (arg1 (qcr qg2 S2 (fun q=>?_) fun r3 q er lr3=>⟨fun hl3=>?_,fun hl3 H3 k3 S3=>?_⟩))
  ·rw [Ma.qcp q] at o2
   have o2:Ma.Out ((Sc25.take_ ";" t2).map fun r=>(acc,r)) _ _:=o2
   rw [Ma.jB] at o2
   refine ⟨_,rfl,me0 rfl hp2 rfl (arg1 (wJ Ue S2 o2 (fun r hl=>.ok hl) fun r4 H4 y4 lr4 hl4 o4 k4 S4=>?_))⟩
   exact ⟨_,rfl,(o4.ok hl4) _ _ (k2.trans k4) S4 ⟨l,vs,rfl,fl,S2.keep k4 hl2 (Other.lst _),Paired.mapP pr2 fun _ _ z=>z.keep (N:=fun _=>True) (S2.jC k4)⟩⟩
  ·rw [Ma.qcN Ma.qkx q,er,Ma.qj3 hl3] at o2
   exact o2
  ·rw [Ma.qcN Ma.qkx q,er,Ma.bind_assoc] at o2
   refine ⟨_,rfl,fun σ' H'=>∃ m',m' < t2.length/\∃ acc t' vs,σ'=[some (.ref p),some (.ref l)]/\Kq p sc H H'/\Ps K A H' p sc a b t' n/\H' l=some (.lst vs)/\Paired (DcR A zG H') vs acc/\vs.length+t'.length<=t.length /\
    Ma.Out ((Ma.SepT Ma.Dc acc t').bind fun x=>(Sc25.take_ ";" x.2).map fun r=>(x.1,r)) (fun x t'=>∀ H' v,Kq p sc H H'->Ps K A H' p sc a b t' n->LnR (DcR A zG) (fun l=>H l=none) H' v x->Q v H') (Rz E)/\m'=t'.length,fun _ _ z=>z,?_⟩
   have hl4:=S2.keep k3 hl2 (Other.lst _)
   refine S3.obE fun dp3 tk3 hp3=>?_
   refine ⟨_,rfl,.inl ⟨rfl,_,SqL.of hl4⟩,me0 rfl hp3 rfl ⟨p,sc,a,b,r3,rfl,S3,(o2.bind fun e r hl=>lgs (acc++[e]) r hl).imp (fun e5 t5 e5' hl5 o5 H5 v5 k5 S5 d5=>?_) fun _ z=>z⟩⟩
   have hl5:=S3.keep k5 hl4 (Other.lst _)
   have l5:=Ma.Gm e5'
   have l5:t5.length < r3.length:=l5
   have k6:Kq p sc H (upd H5 l (.lst (vs++[v5]))):=((k2.trans k3).trans k5).fresh fl
   refine ⟨l,vs,_,rfl,rfl,hl5,Nat.lt_of_le_of_lt (show vs.length<=200000 by omega) (by decide),t5.length,by omega,acc++[e5],t5,vs++[v5],rfl,k6,S5.list hl5 (S.text k6),upd_same,?_,by simp; omega,o5,rfl⟩
   have KN:zF (fun x=>x≠l) H5 (upd H5 l (.lst (vs++[v5]))):=zF.upd hl5 (fun q=>q rfl)
   exact Vz (Paired.mapP pr2 fun _ _ z=>((z.keep (N:=fun _=>True) (S2.jC k3)).keep (N:=fun _=>True) (S3.jC k5)).keep KN) (d5.keep KN)
end
end Pg
namespace Pg
open PySem PySem.Spec PyProof.Rows L2 Xc
open Sc25 (Bytes Toks Bad Got Ex Cell Decl Proc Prog)
open Ma (PT)
theorem qeV:Ma.IsKw "if" := ⟨by decide +kernel,by decide +kernel,by decide +kernel,by decide +kernel⟩
theorem qnw:Ma.IsKw "else" := ⟨by decide +kernel,by decide +kernel,by decide +kernel,by decide +kernel⟩
theorem qoq:Ma.IsKw "fi" := ⟨by decide +kernel,by decide +kernel,by decide +kernel,by decide +kernel⟩
theorem qbr:Ma.IsKw "from" := ⟨by decide +kernel,by decide +kernel,by decide +kernel,by decide +kernel⟩
theorem qoA:Ma.IsKw "do" := ⟨by decide +kernel,by decide +kernel,by decide +kernel,by decide +kernel⟩
theorem qnJ:Ma.IsKw "loop" := ⟨by decide +kernel,by decide +kernel,by decide +kernel,by decide +kernel⟩
theorem qmR:Ma.IsKw "until" := ⟨by decide +kernel,by decide +kernel,by decide +kernel,by decide +kernel⟩
theorem qgx:Ma.IsKw "call" := ⟨by decide +kernel,by decide +kernel,by decide +kernel,by decide +kernel⟩
theorem Gr:Ma.IsKw "uncall" := ⟨by decide +kernel,by decide +kernel,by decide +kernel,by decide +kernel⟩
theorem qeQ:Ma.IsKw "local" := ⟨by decide +kernel,by decide +kernel,by decide +kernel,by decide +kernel⟩
theorem qkt:Ma.IsKw "delocal" := ⟨by decide +kernel,by decide +kernel,by decide +kernel,by decide +kernel⟩
theorem Gv:Ma.IsKw "skip" := ⟨by decide +kernel,by decide +kernel,by decide +kernel,by decide +kernel⟩
theorem qh5:Ma.IsKw "proc" := ⟨by decide +kernel,by decide +kernel,by decide +kernel,by decide +kernel⟩
theorem qkj:Ma.IsKw "main" := ⟨by decide +kernel,by decide +kernel,by decide +kernel,by decide +kernel⟩
theorem qoy:Ma.jR "=" := ⟨by decide +kernel,by decide +kernel,by decide +kernel,by decide +kernel⟩
theorem qkW:Ma.jR "{" := ⟨by decide +kernel,by decide +kernel,by decide +kernel,by decide +kernel⟩
theorem qm2:Ma.jR "}" := ⟨by decide +kernel,by decide +kernel,by decide +kernel,by decide +kernel⟩
theorem qdM:Ma.jR "<=>" := ⟨by decide +kernel,by decide +kernel,by decide +kernel,by decide +kernel⟩
theorem qgA:Ma.jR "+=" := ⟨by decide +kernel,by decide +kernel,by decide +kernel,by decide +kernel⟩
theorem qgQ:Ma.jR "-=" := ⟨by decide +kernel,by decide +kernel,by decide +kernel,by decide +kernel⟩
theorem qlu:Ma.jR "^=" := ⟨by decide +kernel,by decide +kernel,by decide +kernel,by decide +kernel⟩
def qje (c:Cell):Ex:=match c.i with
 | none=>.var c.p c.x
 | some i=>.at_ c.p c.x i
theorem qk1 (c:Cell):Ma.post (qje c)=Ma.postC c:=by
 obtain ⟨p,x,i⟩:=c
 cases i <;> rfl
theorem qnZ (d:Nat) (t:Toks):Vr d t=(Sc25.cell d t).map fun y=>(qje y.1,y.2):=by
 unfold Vr Sc25.cell
 cases Sc25.aName t with
 | error b=>rfl
 | ok x =>
  show (if _ then _ else _)=Except.map _ (if _ then _ else _)
  split
  ·split
   ·rfl
   ·rw [Ma.ex_E]
    cases Ma.E (d-1) 0 (x.2.drop 1) with
    | error b=>rfl
    | ok i =>
     show Except.map _ (Sc25.take_ "]" i.2)=Except.map _ (Except.map _ (Sc25.take_ "]" i.2))
     cases Sc25.take_ "]" i.2 <;> rfl
  ·rfl
section
variable {K:PySem.W.Frag} {A:Adr} {H:Hp} {p sc a:Addr} {b:Bytes} {t:Toks} {d:Nat} {Q:VK} {E:XK} {β:Type} {QQ:β->Toks->Prop}
theorem qbw {k:Ex×Toks->Got β} (S:Ps K A H p sc a b t (32-d)) (o:Ma.Out ((Sc25.ex d t).bind k) QQ (Rz E)) (lg:∀ e r,Ma.qG r=true->Ma.Lg (k (e,r)))
  (go:∀ e r H' v,Ma.qG r=false->Ma.Out (k (e,r)) QQ (Rz E)->LsN A (fun l=>H l=none) H' v (Ma.post e)->Kq p sc H H'->Ps K A H' p sc a b r (32-d)->Q v H'):spX K A (Ma.E d 0) (32-d) [.ref p] H Q E:=by
 rw [Ma.ex_E] at o
 exact ⟨p,sc,a,b,t,rfl,S,(o.bind lg).imp (fun e r _ hl o1 H' l fl kq S' ls=>go e r H' (.ref l) hl o1 ⟨l,rfl,fl,ls⟩ kq S') fun _ z=>z⟩
theorem qjI {k:Cell×Toks->Got β} (S:Ps K A H p sc a b t (32-d)) (o:Ma.Out ((Sc25.cell d t).bind k) QQ (Rz E)) (lg:∀ e r,Ma.qG r=true->Ma.Lg (k (e,r)))
  (go:∀ e r H' v,Ma.qG r=false->Ma.Out (k (e,r)) QQ (Rz E)->LsN A (fun l=>H l=none) H' v (Ma.postC e)->Kq p sc H H'->Ps K A H' p sc a b r (32-d)->Q v H'):spX K A (Vr d) (32-d) [.ref p] H Q E:=by
 refine ⟨p,sc,a,b,t,rfl,S,?_⟩
 rw [qnZ]
 have o1:=o.bind lg
 cases q:Sc25.cell d t with
 | error b=>rw [q] at o1; exact o1
 | ok y =>
  obtain ⟨e,r⟩:=y
  rw [q] at o1
  refine Ma.Out.imp (K:=fun x t'=>x=qje e/\Ma.Out (k (e,r)) QQ (Rz E)/\t'=r) ?_ (fun x t' _ hl ⟨ex,o2,et⟩ H' l fl kq S' ls=>?_) fun _ z=>z
  ·show if Ma.qG r=true then Rz E .full else _
   split
   ·rename_i hl
    have:(if Ma.qG r=true then Rz E .full else _):=o1
    rw [if_pos hl] at this
    exact this
   ·rename_i hl
    have:(if Ma.qG r=true then Rz E .full else Ma.Out (k (e,r)) QQ (Rz E)):=o1
    rw [if_neg hl] at this
    exact ⟨rfl,this,rfl⟩
  ·subst et
   rw [ex,qk1] at ls
   exact go e t' H' (.ref l) hl o2 ⟨l,rfl,fl,ls⟩ kq S'
theorem Yj {α:Type} {n:Int} {F:Toks->Got α} {R:(Addr->Prop)->Hp->V->α->Prop} {k:α×Toks->Got β} (S:Ps K A H p sc a b t n) (o:Ma.Out ((F t).bind k) QQ (Rz E)) (lg:∀ e r,Ma.qG r=true->Ma.Lg (k (e,r)))
  (go:∀ e r H' v,Ma.qG r=false->Ma.Out (k (e,r)) QQ (Rz E)->R (fun l=>H l=none) H' v e->Kq p sc H H'->Ps K A H' p sc a b r n->Q v H'):spG K A n F R [.ref p] H Q E :=
 ⟨p,sc,a,b,t,rfl,S,(o.bind lg).imp (fun e r _ hl o1 H' v kq S' h=>go e r H' v hl o1 h kq S') fun _ z=>z⟩
end
def ifF (d:Nat) (t:Toks):Got Sc25.St:=(Sc25.key "if" t).bind fun u=>(Sc25.ex d u).bind fun c=>(Ma.Bl d c.2).bind fun a=>(Sc25.key "else" a.2).bind fun u=>(Ma.Bl d u).bind fun b=>(Sc25.key "fi" b.2).bind fun u=>(Sc25.ex d u).bind fun e=>.ok (.if_ (Sc25.placeOf t) c.1 a.1 b.1 (Sc25.placeOf b.2) e.1,e.2)
section
variable {P:Program} {w:World} {K:PySem.W.Frag} {mg:Str->Option Value} {base:Heap} {A:Adr}
theorem qoF (T:Txt K mg A) (B:Tbl P w K A) (d:Nat) (hd:d<=32) (hB:Ok P w K mg base (CXr P w K A.qi) (10+4 * d) A.qI ["self"] (spG K A (32-d) (Ma.Bl d) (BkR A))) :
  Ok P w K mg base (CXr P w K A.qi) (12+4 * d) A.jc ["self"] (spG K A (32-d) (ifF d) (StR A)):=by
 obtain ⟨fd,F,bi⟩:=T.qa4
 obtain ⟨f1,G1,b1⟩:=j7 (P:=P) (w:=w) (base:=base) T B
 obtain ⟨f2,G2,b2⟩:=ok_E (P:=P) (w:=w) (base:=base) T B d hd
 obtain ⟨f3,G3,b3⟩:=hB
 obtain ⟨f4,G4,b4⟩:=qea (P:=P) (w:=w) (base:=base) T
 refine ⟨fd,(F.okR (k:=11+4 * d) qa6 (fun vs H Q E h=>?_) (fun cdv AA outer s H vs Q E hr h=>?_)).mono (Nat.le_of_eq (by omega)),bi⟩
 ·obtain ⟨p,sc,a,b,t,rfl,_⟩:=h
  rfl
 ·obtain ⟨p,sc,a,b,t,rfl,S,o⟩:=h
  have nd:=qa6.nd
  have hr6:=hr.mono (show 6<=11+4 * d by omega)
  have hr2:=hr.mono (show 2<=11+4 * d by omega)
  have hrB:=hr.mono (show 10+4 * d<=11+4 * d by omega)
  refine ⟨_,pss_cons (ps_set (i:=1) nd rfl (Or.inl rfl) (pe_fld (pe_meth (pv 0) T.qe T.ql G1 hr6 b1 .nil qw (pa_cons pe_str pa_nil)) rfl))
   (pss_cons (ps_set (i:=2) nd rfl (Or.inl rfl) (pe_meth0 (pv 0) T.qe T.zQ G2 hr b2 .nil qw))
   (pss_cons (ps_set (i:=3) nd rfl (Or.inl rfl) (pe_meth0 (pv 0) T.qe T.jG G3 hrB b3 .nil qw))
   (pss_cons (ps_expr (pe_meth (pv 0) T.qe T.ql G1 hr6 b1 .nil qw (pa_cons pe_str pa_nil)))
   (pss_cons (ps_set (i:=4) nd rfl (Or.inl rfl) (pe_meth0 (pv 0) T.qe T.jG G3 hrB b3 .nil qw))
   (pss_cons (ps_set (i:=5) nd rfl (Or.inl rfl) (pe_fld (pe_meth (pv 0) T.qe T.ql G1 hr6 b1 .nil qw (pa_cons pe_str pa_nil)) rfl))
   (pss_one (ps_ret (pe_make T.qfp G4 hr2 rfl T.qcF b4 .nil pass0 (pa_cons pe_str (pa_cons (pv 1) (pa_cons (pv 2) (pa_cons (pv 3) (pa_cons (pv 4) (pa_cons (pv 5) (pa_cons (pe_meth0 (pv 0) T.qe T.zQ G2 hr b2 .nil qw) pa_nil))))))))))))))),?_⟩
  unfold ifF at o
  refine S.obE fun dp tk hp=>?_
  refine me0 rfl hp rfl (arg1 (Uc qeV S o (fun r hl=>by rw [Ma.Ub hl]; exact .err) fun t1 H1 y1 vv1 ty1 l1 hl1 o1 k1 S1=>?_))
  obtain ⟨dy1,hy1⟩:=id ty1
  refine ⟨y1,_,_,_,_,rfl,hy1,T.qy,T.zO,rfl,?_⟩
  refine S1.obE fun dp1 tk1 hp1=>?_
  refine me0 rfl hp1 rfl (arg0 (qbw S1 o1 (fun e r hl=>by show Ma.Lg ((Ma.Bl d r).bind _); rw [Ma.qbD hl]; exact .err) fun e2 t2 H2 v2 hl2 o2 n2 k2 S2=>?_))
  refine S2.obE fun dp2 tk2 hp2=>?_
  refine me0 rfl hp2 rfl (arg0 (Yj S2 o2 (fun e r hl=>by show Ma.Lg ((Sc25.key "else" r).bind _); rw [Ma.ZC hl]; exact .err) fun e3 t3 H3 v3 hl3 o3 n3 k3 S3=>?_))
  refine S3.obE fun dp3 tk3 hp3=>?_
  refine me0 rfl hp3 rfl (arg1 (qdP qnw S3 o3 (fun r hl=>by rw [Ma.qbD hl]; exact .err) fun t4 H4 y4 l4 hl4 o4 k4 S4=>?_))
  refine S4.obE fun dp4 tk4 hp4=>?_
  refine me0 rfl hp4 rfl (arg0 (Yj S4 o4 (fun e r hl=>by show Ma.Lg ((Sc25.key "fi" r).bind _); rw [Ma.ZC hl]; exact .err) fun e5 t5 H5 v5 hl5 o5 n5 k5 S5=>?_))
  refine S5.obE fun dp5 tk5 hp5=>?_
  refine me0 rfl hp5 rfl (arg1 (Uc qoq S5 o5 (fun r hl=>by rw [Ma.Ub hl]; exact .err) fun t6 H6 y6 vv6 ty6 l6 hl6 o6 k6 S6=>?_))
  obtain ⟨dy6,hy6⟩:=id ty6
  refine ⟨y6,_,_,_,_,rfl,hy6,T.qy,T.zO,rfl,?_⟩
  refine S6.obE fun dp6 tk6 hp6=>?_
  refine ⟨_,rfl,_,rfl,_,rfl,_,rfl,_,rfl,me0 rfl hp6 rfl (arg0 (qbw S6 o6 (fun e r hl=>.ok hl) fun e7 t7 H7 v7 hl7 o7 n7 k7 S7=>?_))⟩
  have o7:Ma.Out (.ok ((.if_ (Sc25.placeOf t) e2 e3 e5 (Sc25.placeOf t5) e7:Sc25.St),t7)) (fun x t'=>∀ (H':Hp) (v:V),Kq p sc H H'->Ps K A H' p sc a b t' (32 - ↑d)->StR A (fun l=>H l=none) H' v x->Q v H') (Rz E):=o7
  refine fun z dz nz ndz nez=>⟨z,dz,_,rfl,rfl,upd_same,rfl,?_⟩
  have m1:∀ l,H1 l=none->H l=none:=fun l q=>Kp.free2 k1 S1 q
  have m2:∀ l,H2 l=none->H l=none:=fun l q=>Kp.free2 (k1.trans k2) S2 q
  have k14:=((k1.trans k2).trans k3).trans k4
  have m4:∀ l,H4 l=none->H l=none:=fun l q=>Kp.free2 k14 S4 q
  have m6:∀ l,H6 l=none->H l=none:=fun l q=>Kp.free2 ((k14.trans k5).trans k6) S6 q
  have k57:=(k5.trans k6).trans k7
  refine (o7.ok hl7) _ _ (((k14.trans k57)).trans (Kp.made nz ndz)) (S7.made nz ndz) (.if_ upd_same ?_ ?_ ?_ ?_)
  ·exact (((n2.mono m1).keep (S2.jC ((k3.trans k4).trans k57))).keep (zF.made nz ndz))
  ·exact ((n3.keep (S3.jC (k4.trans k57)) m2).keep (zF.made nz ndz) fun _ q=>q)
  ·exact ((n5.keep (S5.jC (k6.trans k7)) m4).keep (zF.made nz ndz) fun _ q=>q)
  ·exact (n7.mono m6).keep (zF.made nz ndz)
end
end Pg
namespace Pg
open PySem PySem.Spec PyProof.Rows L2 Xc
open Sc25 (Bytes Toks Bad Got Ex Cell Decl Proc Prog)
open Ma (PT)
def qiS (d:Nat) (t:Toks):Got Sc25.St:=(Sc25.key "from" t).bind fun u=>(Sc25.ex d u).bind fun c=>(Sc25.key "do" c.2).bind fun u=>(Ma.Bl d u).bind fun a=>(Sc25.key "loop" a.2).bind fun u=>(Ma.Bl d u).bind fun b=>(Sc25.key "until" b.2).bind fun u=>(Sc25.ex d u).bind fun e=>.ok (.from_ (Sc25.placeOf t) c.1 a.1 b.1 (Sc25.placeOf b.2) e.1,e.2)
def qhF (d:Nat) (t:Toks):Got Sc25.St:=(Sc25.key "local" t).bind fun u=>(Sc25.aName u).bind fun x=>(Sc25.take_ "=" x.2).bind fun u=>(Sc25.ex d u).bind fun e=>(Ma.Bl d e.2).bind fun a=>(Sc25.key "delocal" a.2).bind fun u=>(Sc25.ex d u).bind fun g=>.ok (.local_ (Sc25.placeOf t) x.1.1 x.1.2 e.1 a.1 (Sc25.placeOf a.2) g.1,g.2)
def qhD (s:String) (t:Toks):Got Sc25.St:=(Sc25.key s t).bind fun u=>(Sc25.aName u).bind fun x=>(Sc25.take_ "(" x.2).bind fun u=>(nmT u).bind fun a=>(Sc25.take_ ")" a.2).bind fun v=>.ok (.call (Sc25.isKey "uncall" t) x.1.1 x.1.2 a.1,v)
def spC (K:PySem.W.Frag) (A:Adr) (n:Int):Sp:=fun vs H Q E=>∃ p sc a b t s,vs=[.ref p,.str (Str.ofString s)]/\Ma.IsKw s/\caS (Sc25.isKey "uncall" t)=Str.ofString s/\Ps K A H p sc a b t n /\
 Ma.Out (qhD s t) (fun x t'=>∀ H' v,Kq p sc H H'->Ps K A H' p sc a b t' n->StR A (fun l=>H l=none) H' v x->Q v H') (Rz E)
theorem argv {i:Nat} {v:V} {σ:L2.St} {H:Hp} {F:List V->Hp->Prop} (e:σ[i]?=some (some v)) (h:F [v] H):tCons (tVar i) tNil σ H F:=⟨v,e,h⟩
theorem qme {r:Toks} (h:Ma.qG r=true):nmT r=.error .full:=by
 unfold nmT
 rw [Ma.jW h,Ma.qkV,Ma.Qm h]
 rfl
section
variable {P:Program} {w:World} {K:PySem.W.Frag} {mg:Str->Option Value} {base:Heap} {A:Adr}
theorem qnR (T:Txt K mg A) (B:Tbl P w K A) (d:Nat) (hd:d<=32) (hB:Ok P w K mg base (CXr P w K A.qi) (10+4 * d) A.qI ["self"] (spG K A (32-d) (Ma.Bl d) (BkR A))) :
  Ok P w K mg base (CXr P w K A.qi) (12+4 * d) A.zU ["self"] (spG K A (32-d) (qiS d) (StR A)):=by
 obtain ⟨fd,F,bi⟩:=T.Xw
 obtain ⟨f1,G1,b1⟩:=j7 (P:=P) (w:=w) (base:=base) T B
 obtain ⟨f2,G2,b2⟩:=ok_E (P:=P) (w:=w) (base:=base) T B d hd
 obtain ⟨f3,G3,b3⟩:=hB
 obtain ⟨f4,G4,b4⟩:=qea (P:=P) (w:=w) (base:=base) T
 refine ⟨fd,(F.okR (k:=11+4 * d) XJ (fun vs H Q E h=>?_) (fun cdv AA outer s H vs Q E hr h=>?_)).mono (Nat.le_of_eq (by omega)),bi⟩
 ·obtain ⟨p,sc,a,b,t,rfl,_⟩:=h
  rfl
 ·obtain ⟨p,sc,a,b,t,rfl,S,o⟩:=h
  have nd:=XJ.nd
  have hr6:=hr.mono (show 6<=11+4 * d by omega)
  have hr2:=hr.mono (show 2<=11+4 * d by omega)
  have hrB:=hr.mono (show 10+4 * d<=11+4 * d by omega)
  refine ⟨_,pss_cons (ps_set (i:=1) nd rfl (Or.inl rfl) (pe_fld (pe_meth (pv 0) T.qe T.ql G1 hr6 b1 .nil qw (pa_cons pe_str pa_nil)) rfl))
   (pss_cons (ps_set (i:=2) nd rfl (Or.inl rfl) (pe_meth0 (pv 0) T.qe T.zQ G2 hr b2 .nil qw))
   (pss_cons (ps_expr (pe_meth (pv 0) T.qe T.ql G1 hr6 b1 .nil qw (pa_cons pe_str pa_nil)))
   (pss_cons (ps_set (i:=3) nd rfl (Or.inl rfl) (pe_meth0 (pv 0) T.qe T.jG G3 hrB b3 .nil qw))
   (pss_cons (ps_expr (pe_meth (pv 0) T.qe T.ql G1 hr6 b1 .nil qw (pa_cons pe_str pa_nil)))
   (pss_cons (ps_set (i:=4) nd rfl (Or.inl rfl) (pe_meth0 (pv 0) T.qe T.jG G3 hrB b3 .nil qw))
   (pss_cons (ps_set (i:=5) nd rfl (Or.inl rfl) (pe_fld (pe_meth (pv 0) T.qe T.ql G1 hr6 b1 .nil qw (pa_cons pe_str pa_nil)) rfl))
   (pss_one (ps_ret (pe_make T.qfp G4 hr2 rfl T.qcF b4 .nil pass0 (pa_cons pe_str (pa_cons (pv 1) (pa_cons (pv 2) (pa_cons (pv 3) (pa_cons (pv 4) (pa_cons (pv 5) (pa_cons (pe_meth0 (pv 0) T.qe T.zQ G2 hr b2 .nil qw) pa_nil)))))))))))))))),?_⟩
  unfold qiS at o
  refine S.obE fun dp tk hp=>?_
  refine me0 rfl hp rfl (arg1 (Uc qbr S o (fun r hl=>by rw [Ma.Ub hl]; exact .err) fun t1 H1 y1 vv1 ty1 l1 hl1 o1 k1 S1=>?_))
  obtain ⟨dy1,hy1⟩:=id ty1
  refine ⟨y1,_,_,_,_,rfl,hy1,T.qy,T.zO,rfl,?_⟩
  refine S1.obE fun dp1 tk1 hp1=>?_
  refine me0 rfl hp1 rfl (arg0 (qbw S1 o1 (fun e r hl=>by show Ma.Lg ((Sc25.key "do" r).bind _); rw [Ma.ZC hl]; exact .err) fun e2 t2 H2 v2 hl2 o2 n2 k2 S2=>?_))
  refine S2.obE fun dp2 tk2 hp2=>?_
  refine me0 rfl hp2 rfl (arg1 (qdP qoA S2 o2 (fun r hl=>by rw [Ma.qbD hl]; exact .err) fun t8 H8 y8 l8 hl8 o8 k8 S8=>?_))
  refine S8.obE fun dp8 tk8 hp8=>?_
  refine me0 rfl hp8 rfl (arg0 (Yj S8 o8 (fun e r hl=>by show Ma.Lg ((Sc25.key "loop" r).bind _); rw [Ma.ZC hl]; exact .err) fun e3 t3 H3 v3 hl3 o3 n3 k3 S3=>?_))
  refine S3.obE fun dp3 tk3 hp3=>?_
  refine me0 rfl hp3 rfl (arg1 (qdP qnJ S3 o3 (fun r hl=>by rw [Ma.qbD hl]; exact .err) fun t4 H4 y4 l4 hl4 o4 k4 S4=>?_))
  refine S4.obE fun dp4 tk4 hp4=>?_
  refine me0 rfl hp4 rfl (arg0 (Yj S4 o4 (fun e r hl=>by show Ma.Lg ((Sc25.key "until" r).bind _); rw [Ma.ZC hl]; exact .err) fun e5 t5 H5 v5 hl5 o5 n5 k5 S5=>?_))
  refine S5.obE fun dp5 tk5 hp5=>?_
  refine me0 rfl hp5 rfl (arg1 (Uc qmR S5 o5 (fun r hl=>by rw [Ma.Ub hl]; exact .err) fun t6 H6 y6 vv6 ty6 l6 hl6 o6 k6 S6=>?_))
  obtain ⟨dy6,hy6⟩:=id ty6
  refine ⟨y6,_,_,_,_,rfl,hy6,T.qy,T.zO,rfl,?_⟩
  refine S6.obE fun dp6 tk6 hp6=>?_
  refine ⟨_,rfl,_,rfl,_,rfl,_,rfl,_,rfl,me0 rfl hp6 rfl (arg0 (qbw S6 o6 (fun e r hl=>.ok hl) fun e7 t7 H7 v7 hl7 o7 n7 k7 S7=>?_))⟩
  have o7:Ma.Out (.ok ((.from_ (Sc25.placeOf t) e2 e3 e5 (Sc25.placeOf t5) e7:Sc25.St),t7)) (fun x t'=>∀ (H':Hp) (v:V),Kq p sc H H'->Ps K A H' p sc a b t' (32 - ↑d)->StR A (fun l=>H l=none) H' v x->Q v H') (Rz E):=o7
  refine fun z dz nz ndz nez=>⟨z,dz,_,rfl,rfl,upd_same,rfl,?_⟩
  have m1:∀ l,H1 l=none->H l=none:=fun l q=>Kp.free2 k1 S1 q
  have m2:∀ l,H8 l=none->H l=none:=fun l q=>Kp.free2 ((k1.trans k2).trans k8) S8 q
  have k14:=(((k1.trans k2).trans k8).trans k3).trans k4
  have m4:∀ l,H4 l=none->H l=none:=fun l q=>Kp.free2 k14 S4 q
  have m6:∀ l,H6 l=none->H l=none:=fun l q=>Kp.free2 ((k14.trans k5).trans k6) S6 q
  have k57:=(k5.trans k6).trans k7
  refine (o7.ok hl7) _ _ (((k14.trans k57)).trans (Kp.made nz ndz)) (S7.made nz ndz) (.from_ upd_same ?_ ?_ ?_ ?_)
  ·exact (((n2.mono m1).keep (S2.jC (((k8.trans k3).trans k4).trans k57))).keep (zF.made nz ndz))
  ·exact ((n3.keep (S3.jC (k4.trans k57)) m2).keep (zF.made nz ndz) fun _ q=>q)
  ·exact ((n5.keep (S5.jC (k6.trans k7)) m4).keep (zF.made nz ndz) fun _ q=>q)
  ·exact (n7.mono m6).keep (zF.made nz ndz)
theorem qmu (T:Txt K mg A) (B:Tbl P w K A) (d:Nat) (hd:d<=32) (hB:Ok P w K mg base (CXr P w K A.qi) (10+4 * d) A.qI ["self"] (spG K A (32-d) (Ma.Bl d) (BkR A))) :
  Ok P w K mg base (CXr P w K A.qi) (12+4 * d) A.zL ["self"] (spG K A (32-d) (qhF d) (StR A)):=by
 obtain ⟨fd,F,bi⟩:=T.KY
 obtain ⟨f1,G1,b1⟩:=j7 (P:=P) (w:=w) (base:=base) T B
 obtain ⟨f2,G2,b2⟩:=ok_E (P:=P) (w:=w) (base:=base) T B d hd
 obtain ⟨f3,G3,b3⟩:=hB
 obtain ⟨f4,G4,b4⟩:=qiO (P:=P) (w:=w) (base:=base) T
 refine ⟨fd,(F.okR (k:=11+4 * d) Ko (fun vs H Q E h=>?_) (fun cdv AA outer s H vs Q E hr h=>?_)).mono (Nat.le_of_eq (by omega)),bi⟩
 ·obtain ⟨p,sc,a,b,t,rfl,_⟩:=h
  rfl
 ·obtain ⟨p,sc,a,b,t,rfl,S,o⟩:=h
  have nd:=Ko.nd
  have hr6:=hr.mono (show 6<=11+4 * d by omega)
  have hr2:=hr.mono (show 2<=11+4 * d by omega)
  have hrB:=hr.mono (show 10+4 * d<=11+4 * d by omega)
  refine ⟨_,pss_cons (ps_set (i:=1) nd rfl (Or.inl rfl) (pe_fld (pe_meth (pv 0) T.qe T.ql G1 hr6 b1 .nil qw (pa_cons pe_str pa_nil)) rfl))
   (pss_cons (ps_set (i:=2) nd rfl (Or.inl rfl) (pe_meth (pv 0) T.qe T.ql G1 hr6 b1 .nil qw (pa_cons pe_str pa_nil)))
   (pss_cons (ps_expr (pe_meth (pv 0) T.qe T.ql G1 hr6 b1 .nil qw (pa_cons pe_str pa_nil)))
   (pss_cons (ps_set (i:=3) nd rfl (Or.inl rfl) (pe_meth0 (pv 0) T.qe T.zQ G2 hr b2 .nil qw))
   (pss_cons (ps_set (i:=4) nd rfl (Or.inl rfl) (pe_meth0 (pv 0) T.qe T.jG G3 hrB b3 .nil qw))
   (pss_cons (ps_set (i:=5) nd rfl (Or.inl rfl) (pe_fld (pe_meth (pv 0) T.qe T.ql G1 hr6 b1 .nil qw (pa_cons pe_str pa_nil)) rfl))
   (pss_one (ps_ret (pe_make T.qjb G4 hr2 rfl T.qg3 b4 .nil pass0 (pa_cons (pv 1) (pa_cons (pv 2) (pa_cons (pv 3) (pa_cons (pv 4) (pa_cons (pv 5) (pa_cons (pe_meth0 (pv 0) T.qe T.zQ G2 hr b2 .nil qw) pa_nil)))))))))))))),?_⟩
  unfold qhF at o
  refine S.obE fun dp tk hp=>?_
  refine me0 rfl hp rfl (arg1 (Uc qeQ S o (fun r hl=>by rw [Ma.Qm hl]; exact .err) fun t1 H1 y1 vv1 ty1 l1 hl1 o1 k1 S1=>?_))
  obtain ⟨dy1,hy1⟩:=id ty1
  refine ⟨y1,_,_,_,_,rfl,hy1,T.qy,T.zO,rfl,?_⟩
  refine S1.obE fun dp1 tk1 hp1=>?_
  refine me0 rfl hp1 rfl (arg1 (Yw S1 o1 (fun e r hl=>by show Ma.Lg ((Sc25.take_ "=" r).bind _); rw [Ma.jN hl]; exact .err) fun e2 t2 H2 v2 l2 hl2 o2 n2 k2 S2=>?_))
  refine S2.obE fun dp2 tk2 hp2=>?_
  refine me0 rfl hp2 rfl (arg1 (wJ qoy S2 o2 (fun r hl=>by rw [Ma.Ub hl]; exact .err) fun t3 H3 y3 l3 hl3 o3 k3 S3=>?_))
  refine S3.obE fun dp3 tk3 hp3=>?_
  refine me0 rfl hp3 rfl (arg0 (qbw S3 o3 (fun e r hl=>by show Ma.Lg ((Ma.Bl d r).bind _); rw [Ma.qbD hl]; exact .err) fun e4 t4 H4 v4 hl4 o4 n4 k4 S4=>?_))
  refine S4.obE fun dp4 tk4 hp4=>?_
  refine me0 rfl hp4 rfl (arg0 (Yj S4 o4 (fun e r hl=>by show Ma.Lg ((Sc25.key "delocal" r).bind _); rw [Ma.ZC hl]; exact .err) fun e5 t5 H5 v5 hl5 o5 n5 k5 S5=>?_))
  refine S5.obE fun dp5 tk5 hp5=>?_
  refine ⟨_,rfl,p,dp5,_,rfl,hp5,rfl,arg1 (Uc qkt S5 o5 (fun r hl=>by rw [Ma.Ub hl]; exact .err) fun t6 H6 y6 vv6 ty6 l6 hl6 o6 k6 S6=>?_)⟩
  obtain ⟨dy6,hy6⟩:=id ty6
  refine ⟨y6,_,_,_,_,rfl,hy6,T.qy,T.zO,rfl,?_⟩
  refine S6.obE fun dp6 tk6 hp6=>?_
  refine ⟨_,rfl,_,rfl,_,rfl,_,rfl,_,rfl,_,rfl,p,dp6,_,rfl,hp6,rfl,arg0 (qbw S6 o6 (fun e r hl=>.ok hl) fun e7 t7 H7 v7 hl7 o7 n7 k7 S7=>?_)⟩
  have o7:Ma.Out (.ok ((.local_ (Sc25.placeOf t) e2.1 e2.2 e4 e5 (Sc25.placeOf t5) e7:Sc25.St),t7)) (fun x t'=>∀ (H':Hp) (v:V),Kq p sc H H'->Ps K A H' p sc a b t' (32 - ↑d)->StR A (fun l=>H l=none) H' v x->Q v H') (Rz E):=o7
  refine fun z dz nz ndz nez=>⟨z,dz,_,rfl,rfl,upd_same,rfl,?_⟩
  have k13:=(k1.trans k2).trans k3
  have m3:∀ l,H3 l=none->H l=none:=fun l q=>Kp.free2 k13 S3 q
  have m4:∀ l,H4 l=none->H l=none:=fun l q=>Kp.free2 (k13.trans k4) S4 q
  have k16:=((k13.trans k4).trans k5).trans k6
  have m6:∀ l,H6 l=none->H l=none:=fun l q=>Kp.free2 k16 S6 q
  refine (o7.ok hl7) _ _ ((k16.trans k7).trans (Kp.made nz ndz)) (S7.made nz ndz) (.local_ upd_same ?_ ?_ ?_ ?_)
  ·exact (n2.keep (S2.keeps ((((k3.trans k4).trans k5).trans k6).trans k7))).keep (Qj nz ndz)
  ·exact (((n4.mono m3).keep (S4.jC ((k5.trans k6).trans k7))).keep (zF.made nz ndz))
  ·exact ((n5.keep (S5.jC (k6.trans k7)) m4).keep (zF.made nz ndz) fun _ q=>q)
  ·exact (n7.mono m6).keep (zF.made nz ndz)
theorem qnY (T:Txt K mg A) (B:Tbl P w K A) (n:Int):Ok P w K mg base (CXr P w K A.qi) 9 A.zT ["self","kind"] (spC K A n):=by
 obtain ⟨fd,F,bi⟩:=T.XC
 obtain ⟨f1,G1,b1⟩:=j7 (P:=P) (w:=w) (base:=base) T B
 obtain ⟨f3,G3,b3⟩:=qlp (P:=P) (w:=w) (base:=base) T B n
 obtain ⟨f4,G4,b4⟩:=qjy (P:=P) (w:=w) (base:=base) T
 refine ⟨fd,F.okR XD (fun vs H Q E h=>?_) (fun cdv AA outer s H vs Q E hr h=>?_),bi⟩
 ·obtain ⟨p,sc,a,b,t,kw,rfl,_⟩:=h
  rfl
 ·obtain ⟨p,sc,a,b,t,kw,rfl,hk,hkw,S,o⟩:=h
  have nd:=XD.nd
  have hr6:=hr.mono (show 6<=8 by decide)
  have hr2:=hr.mono (show 2<=8 by decide)
  refine ⟨_,pss_cons (ps_expr (pe_meth (pv 0) T.qe T.ql G1 hr6 b1 .nil qw (pa_cons (pv 1) pa_nil)))
   (pss_cons (ps_set (i:=2) nd rfl (Or.inl rfl) (pe_meth (pv 0) T.qe T.ql G1 hr6 b1 .nil qw (pa_cons pe_str pa_nil)))
   (pss_cons (ps_expr (pe_meth (pv 0) T.qe T.ql G1 hr6 b1 .nil qw (pa_cons pe_str pa_nil)))
   (pss_cons (ps_set (i:=3) nd rfl (Or.inl rfl) (pe_meth0 (pv 0) T.qe T.Gx G3 hr b3 .nil qw))
   (pss_cons (ps_expr (pe_meth (pv 0) T.qe T.ql G1 hr6 b1 .nil qw (pa_cons pe_str pa_nil)))
   (pss_one (ps_ret (pe_make T.qke G4 hr2 rfl T.qic b4 .nil pass0 (pa_cons (pv 1) (pa_cons (pv 2) (pa_cons (pv 3) pa_nil)))))))))),?_⟩
  unfold qhD at o
  refine S.obE fun dp tk hp=>?_
  refine me0 rfl hp rfl (argv rfl (qdP hk S o (fun r hl=>by rw [Ma.Qm hl]; exact .err) fun t1 H1 y1 l1 hl1 o1 k1 S1=>?_))
  refine S1.obE fun dp1 tk1 hp1=>?_
  refine ⟨_,rfl,p,dp1,_,rfl,hp1,rfl,arg1 (Yw S1 o1 (fun e r hl=>by show Ma.Lg ((Sc25.take_ "(" r).bind _); rw [Ma.jN hl]; exact .err) fun e2 t2 H2 v2 l2 hl2 o2 n2 k2 S2=>?_)⟩
  refine S2.obE fun dp2 tk2 hp2=>?_
  refine me0 rfl hp2 rfl (arg1 (wJ qgu S2 o2 (fun r hl=>by rw [qme hl]; exact .err) fun t3 H3 y3 l3 hl3 o3 k3 S3=>?_))
  refine S3.obE fun dp3 tk3 hp3=>?_
  refine ⟨_,rfl,p,dp3,_,rfl,hp3,rfl,arg0 (Yj S3 o3 (fun e r hl=>by show Ma.Lg ((Sc25.take_ ")" r).bind _); rw [Ma.jN hl]; exact .err) fun e4 t4 H4 v4 hl4 o4 n4 k4 S4=>?_)⟩
  refine S4.obE fun dp4 tk4 hp4=>?_
  refine me0 rfl hp4 rfl (arg1 (wJ qcM S4 o4 (fun r hl=>.ok hl) fun t5 H5 y5 l5 hl5 o5 k5 S5=>?_))
  have o5:Ma.Out (.ok ((.call (Sc25.isKey "uncall" t) e2.1 e2.2 e4:Sc25.St),t5)) (fun x t'=>∀ (H':Hp) (v:V),Kq p sc H H'->Ps K A H' p sc a b t' n->StR A (fun l=>H l=none) H' v x->Q v H') (Rz E):=o5
  refine ⟨_,rfl,_,rfl,_,rfl,fun z dz nz ndz nez=>⟨z,dz,_,rfl,rfl,upd_same,rfl,?_⟩⟩
  have k13:=(k1.trans k2).trans k3
  have m3:∀ l,H3 l=none->H l=none:=fun l q=>Kp.free2 k13 S3 q
  refine (o5.ok hl5) _ _ (((k13.trans k4).trans k5).trans (Kp.made nz ndz)) (S5.made nz ndz) (.call (by rw [upd_same,hkw]; rfl) ?_ ?_)
  ·exact (n2.keep (S2.keeps ((k3.trans k4).trans k5))).keep (Qj nz ndz)
  ·exact ((n4.mono m3).keep (S4.jC k5) fun _ _ z=>z.keep (S4.keeps k5)).keep (zF.made nz ndz) fun _ _ z=>z.keep (Qj nz ndz)
end
end Pg
namespace Pg
open PySem PySem.Spec PyProof.Rows L2 Xc
open Sc25 (Bytes Toks Bad Got Ex Cell Decl Proc Prog)
open Ma (PT)
def qd5 (d:Nat) (t:Toks):Got Sc25.St:=(Sc25.cell d t).bind fun a =>
 if Sc25.is_ "<=>" a.2=true then (Sc25.cell d (a.2.drop 1)).bind fun b=>.ok (.swap a.1 b.1,b.2)
 else if Sc25.is_ "+=" a.2=true then (Sc25.ex d (a.2.drop 1)).bind fun e=>.ok (.set a.1 .plus e.1,e.2)
 else if Sc25.is_ "-=" a.2=true then (Sc25.ex d (a.2.drop 1)).bind fun e=>.ok (.set a.1 .minus e.1,e.2)
 else (Sc25.take_ "^=" a.2).bind fun u=>(Sc25.ex d u).bind fun e=>.ok (.set a.1 .xor_ e.1,e.2)
theorem eqS (a k:Str):eqV (.str a) (.str k)=decide (k=a):=by
 show (a == k)=_
 by_cases h:k=a
 ·subst h
  rw [beq_self_eq_true]
  exact (decide_eq_true rfl).symm
 ·rw [decide_eq_false h]
  exact beq_eq_false_iff_ne.mpr fun q=>h q.symm
theorem inV3 (k a b c:Str):inV (.str k) [.str a,.str b,.str c]=decide (k=a\/k=b\/k=c):=by
 simp only [inV,List.any_cons,List.any_nil,eqS,Bool.or_false]
 by_cases h1:k=a <;> by_cases h2:k=b <;> by_cases h3:k=c <;> simp [h1,h2,h3]
section
variable {P:Program} {w:World} {K:PySem.W.Frag} {mg:Str->Option Value} {base:Heap} {A:Adr}
theorem qlJ (T:Txt K mg A) (B:Tbl P w K A) (d:Nat) (hd:d<=32):Ok P w K mg base (CXr P w K A.qi) (12+4 * d) A.zx ["self"] (spG K A (32-d) (qd5 d) (StR A)):=by
 obtain ⟨fd,F,bi⟩:=T.Gg
 obtain ⟨f1,G1,b1⟩:=j7 (P:=P) (w:=w) (base:=base) T B
 obtain ⟨f2,G2,b2⟩:=ok_E (P:=P) (w:=w) (base:=base) T B d hd
 obtain ⟨f3,G3,b3⟩:=ok_V (P:=P) (w:=w) (base:=base) T B d hd
 obtain ⟨f4,G4,b4⟩:=qhM (P:=P) (w:=w) (base:=base) T
 obtain ⟨f5,G5,b5⟩:=qi1 (P:=P) (w:=w) (base:=base) T
 refine ⟨fd,(F.okR (k:=11+4 * d) Gw (fun vs H Q E h=>?_) (fun cdv AA outer s H vs Q E hr h=>?_)).mono (Nat.le_of_eq (by omega)),bi⟩
 ·obtain ⟨p,sc,a,b,t,rfl,_⟩:=h
  rfl
 ·obtain ⟨p,sc,a,b,t,rfl,S,o⟩:=h
  have nd:=Gw.nd
  have hr6:=hr.mono (show 6<=11+4 * d by omega)
  have hr2:=hr.mono (show 2<=11+4 * d by omega)
  have hr8:=hr.mono (show 8+4 * d<=11+4 * d by omega)
  refine ⟨_,pss_cons (ps_set (i:=1) nd rfl (Or.inl rfl) (pe_meth0 (pv 0) T.qe T.wM G3 hr8 b3 .nil qw))
   (pss_cons (ps_if (pt_cmpR op_in_seq (pe_fld (pe_fld (pv 0) rfl) rfl) (pe_glob (by rfl) T.qhx (v:=.ref A.wy) (by rfl)) (by with_unfolding_all rfl))
    (pss_cons (ps_set (i:=2) nd rfl (Or.inl rfl) (pe_fld (pe_meth (pv 0) T.qe T.ql G1 hr6 b1 .nil qw (pa_cons (pe_fld (pe_fld (pv 0) rfl) rfl) pa_nil)) rfl))
    (pss_one (ps_ret (pe_make T.qiL G4 hr2 rfl T.qgl b4 .nil pass0 (pa_cons (pv 1) (pa_cons (pv 2) (pa_cons (pe_meth0 (pv 0) T.qe T.zQ G2 hr b2 .nil qw) pa_nil))))))) pss_nil)
   (pss_cons (ps_expr (pe_meth (pv 0) T.qe T.ql G1 hr6 b1 .nil qw (pa_cons pe_str pa_nil)))
   (pss_one (ps_ret (pe_make T.qkf G5 hr2 rfl T.qia b5 .nil pass0 (pa_cons (pv 1) (pa_cons (pe_meth0 (pv 0) T.qe T.wM G3 hr8 b3 .nil qw) pa_nil))))))),?_⟩
  unfold qd5 at o
  refine S.obE fun dp tk hp=>?_
  refine me0 rfl hp rfl (arg0 (qjI S o (fun e r hl=>?_) fun e1 t1 H1 v1 hl1 o1 n1 k1 S1=>?_))
  ·show Ma.Lg (if Sc25.is_ "<=>" r=true then _ else if Sc25.is_ "+=" r=true then _ else if Sc25.is_ "-=" r=true then _ else (Sc25.take_ "^=" r).bind _)
   rw [Ma.jW hl,Ma.jW hl,Ma.jW hl,Ma.jN hl]
   exact .err
  obtain ⟨x,r,rfl,nl,wf⟩:=S1.cons
  refine S1.tokE fun tk1 dp1 dt1 hp1 hdt1=>?_
  refine ⟨_,rfl,p,_,dp1,_,_,rfl,hp1,T.qe,T.za,rfl,tk1,_,_,_,_,rfl,hdt1,T.qy,T.zb,rfl,A.wy,_,rfl,.inr (B.changes _),rfl,rfl,_,rfl,?_⟩
  show if (inV (.str (Ma.kindS x.1)) [.str "+=",.str "-=",.str "^="])=true then _ else _
  rw [inV3]
  refine ite2 (fun z=>?_) fun z=>?_
  ·have z:=of_decide_eq_true z
   have o2:∃ c,Ma.kindS x.1=sgS c/\Ma.Out ((Sc25.ex d r).bind fun e=>.ok (.set e1 c e.1,e.2)) (fun x t'=>∀ (H':Hp) (v:V),Kq p sc H H'->Ps K A H' p sc a b t' (32 - ↑d)->StR A (fun l=>H l=none) H' v x->Q v H') (Rz E):=by
    dsimp only at o1
    rcases z with z | z | z
    ·rw [Qi qdM (by rw [z]; decide),Z5 qgA z] at o1
     exact ⟨.plus,z,o1⟩
    ·rw [Qi qdM (by rw [z]; decide),Qi qgA (by rw [z]; decide),Z5 qgQ z] at o1
     exact ⟨.minus,z,o1⟩
    ·rw [Qi qdM (by rw [z]; decide),Qi qgA (by rw [z]; decide),Qi qgQ (by rw [z]; decide),qg6 qlu z] at o1
     exact ⟨.xor_,z,o1⟩
   obtain ⟨c,ec,o2⟩:=o2
   have nend:Ma.kindS x.1 ≠ "end" := by rcases z with z | z | z <;> rw [z] <;> decide
   have noth:Ma.kindS x.1 ≠ "other" := by rcases z with z | z | z <;> rw [z] <;> decide
   refine me0 rfl hp1 rfl (fl1 rfl hp1 T.qe T.za rfl hdt1 T.qy T.zb rfl ⟨p,sc,a,b,x,r,_,Ma.kindS x.1,rfl,S1,noth,fun q=>absurd rfl q,fun q y=>absurd y (wN q nend),fun _ _=>⟨fun hl=>?_,fun hl H2 y2 ty2 k2 S2=>?_⟩⟩)
   ·rw [Ma.Ub hl] at o2
    exact o2
   refine S2.obE fun dp2 tk2 hp2=>?_
   obtain ⟨dy2,hy2⟩:=id ty2
   refine ⟨y2,_,_,_,_,rfl,hy2,T.qy,T.zb,rfl,?_⟩
   rw [ec]
   refine ⟨_,rfl,_,rfl,me0 rfl hp2 rfl (arg0 (qbw S2 o2 (fun e r hl=>.ok hl) fun e3 t3 H3 v3 hl3 o3 n3 k3 S3=>?_))⟩
   have o3:Ma.Out (.ok ((.set e1 c e3:Sc25.St),t3)) (fun x t'=>∀ (H':Hp) (v:V),Kq p sc H H'->Ps K A H' p sc a b t' (32 - ↑d)->StR A (fun l=>H l=none) H' v x->Q v H') (Rz E):=o3
   refine fun z dz nz ndz nez=>⟨z,dz,_,rfl,rfl,upd_same,rfl,?_⟩
   refine (o3.ok hl3) _ _ (((k1.trans k2).trans k3).trans (Kp.made nz ndz)) (S3.made nz ndz) (.set upd_same ?_ ?_)
   ·exact (n1.keep (S1.jC (k2.trans k3))).keep (zF.made nz ndz)
   ·exact (n3.mono fun l q=>Kp.free2 (k1.trans k2) S2 q).keep (zF.made nz ndz)
  ·have z:¬ (Ma.kindS x.1 = "+=" \/ Ma.kindS x.1 = "-=" \/ Ma.kindS x.1 = "^="):=fun q=>z (decide_eq_true q)
   refine me0 rfl hp1 rfl ⟨p,sc,a,b,x,r,_,"<=>",rfl,S1,by decide,fun q=>?_,fun q y=>absurd y (wN q (by decide)),fun q _=>?_⟩
   ·dsimp only at o1
    rw [Qi qdM q,Qi qgA fun y=>z (.inl y),Qi qgQ fun y=>z (.inr (.inl y)),qh1 qlu nl fun y=>z (.inr (.inr y))] at o1
    exact o1
   dsimp only at o1
   rw [Z5 qdM q] at o1
   have o2:Ma.Out ((Sc25.cell d r).bind fun b=>.ok (.swap e1 b.1,b.2)) (fun x t'=>∀ (H':Hp) (v:V),Kq p sc H H'->Ps K A H' p sc a b t' (32 - ↑d)->StR A (fun l=>H l=none) H' v x->Q v H') (Rz E):=o1
   refine ⟨fun hl=>?_,fun hl H2 y2 ty2 k2 S2=>?_⟩
   ·rw [Ma.qiv hl] at o2
    exact o2
   refine S2.obE fun dp2 tk2 hp2=>?_
   refine ⟨_,rfl,me0 rfl hp2 rfl (arg0 (qjI S2 o2 (fun e r hl=>.ok hl) fun e3 t3 H3 v3 hl3 o3 n3 k3 S3=>?_))⟩
   have o3:Ma.Out (.ok ((.swap e1 e3:Sc25.St),t3)) (fun x t'=>∀ (H':Hp) (v:V),Kq p sc H H'->Ps K A H' p sc a b t' (32 - ↑d)->StR A (fun l=>H l=none) H' v x->Q v H') (Rz E):=o3
   refine fun z dz nz ndz nez=>⟨z,dz,_,rfl,rfl,upd_same,rfl,?_⟩
   refine (o3.ok hl3) _ _ (((k1.trans k2).trans k3).trans (Kp.made nz ndz)) (S3.made nz ndz) (.swap upd_same ?_ ?_)
   ·exact (n1.keep (S1.jC (k2.trans k3))).keep (zF.made nz ndz)
   ·exact (n3.mono fun l q=>Kp.free2 (k1.trans k2) S2 q).keep (zF.made nz ndz)
end
end Pg
namespace Pg
open PySem PySem.Spec PyProof.Rows L2 Xc
open Sc25 (Bytes Toks Bad Got Ex Cell Decl Proc Prog)
open Ma (PT)
theorem Zx {α β:Type} (x:α) (f:α->Sc25.Read β):(Except.ok x:Sc25.Read α).bind f=f x:=rfl
abbrev semi (x:Sc25.St×Toks):Got Sc25.St:=(Sc25.take_ ";" x.2).bind fun v=>.ok (x.1,v)
def qkq (t:Toks):Got Sc25.St:=(Sc25.key "skip" t).bind fun r=>.ok (.skip,r)
theorem key_of {s:String} {t:Toks} (h:Sc25.isKey s t=true):Sc25.key s t=.ok (t.drop 1):=by
 unfold Sc25.key
 rw [if_pos h]
section
variable {d:Nat} {x:Sc25.Tok×Nat} {r:Toks}
theorem qnv (wf:Ma.Wf x.1) (h:Ma.kindS x.1 = "skip"):Ma.Sm d (x :: r)=(qkq (x :: r)).bind semi:=by
 rw [Ma.qfb,yC Gv wf h]
 unfold qkq
 rw [key_of (yC Gv wf h)]
 simp only [if_true,semi,Zx,Ma.jB]
theorem qoJ (wf:Ma.Wf x.1) (h:Ma.kindS x.1 = "if"):Ma.Sm d (x :: r)=(ifF d (x :: r)).bind semi:=by
 rw [Ma.qfb,wz Gv wf (by rw [h]; decide),yC qeV wf h]
 unfold ifF
 rw [key_of (yC qeV wf h)]
 simp only [if_true,Bool.false_eq_true,if_false,semi,Zx,Ma.jB,Ma.bind_assoc]
theorem qni (wf:Ma.Wf x.1) (h:Ma.kindS x.1 = "from"):Ma.Sm d (x :: r)=(qiS d (x :: r)).bind semi:=by
 rw [Ma.qfb,wz Gv wf (by rw [h]; decide),wz qeV wf (by rw [h]; decide),yC qbr wf h]
 unfold qiS
 rw [key_of (yC qbr wf h)]
 simp only [if_true,Bool.false_eq_true,if_false,semi,Zx,Ma.jB,Ma.bind_assoc]
theorem qmq (t:Toks):Sc25.argsAt t=(Sc25.take_ "(" t).bind fun u=>(nmT u).bind fun a=>(Sc25.take_ ")" a.2).bind fun v=>.ok (a.1,v):=by
 unfold Sc25.argsAt
 refine Ma.qm fun u hu=>?_
 unfold nmT
 cases q:Sc25.is_ ")" u with
 | true =>
  simp only [if_true,Zx]
  show _=(Sc25.take_ ")" u).bind _
  unfold Sc25.take_
  rw [if_pos q]
  rfl
 | false =>
  simp only [Bool.false_eq_true,if_false,Ma.jB]
  rfl
theorem qkc {s:String} (hs:s = "call" \/ s = "uncall") (hk:Ma.IsKw s) (wf:Ma.Wf x.1) (h:Ma.kindS x.1=(s:Str)):Ma.Sm d (x :: r)=(qhD s (x :: r)).bind semi:=by
 have yes:=yC (r:=r) hk wf h
 rw [Ma.qfb,wz Gv wf (by rw [h]; rcases hs with rfl | rfl <;> decide),wz qeV wf (by rw [h]; rcases hs with rfl | rfl <;> decide),wz qbr wf (by rw [h]; rcases hs with rfl | rfl <;> decide)]
 have or:Sc25.isKey "call" (x :: r)=true\/Sc25.isKey "uncall" (x :: r)=true:=by
  rcases hs with rfl | rfl
  ·exact .inl yes
  ·exact .inr yes
 unfold qhD
 rw [key_of yes]
 simp only [Bool.false_eq_true,if_false,if_pos or,semi,Zx,Ma.jB,Ma.bind_assoc,qmq]
theorem qmH (wf:Ma.Wf x.1) (h:Ma.kindS x.1 = "local"):Ma.Sm d (x :: r)=(qhF d (x :: r)).bind semi:=by
 rw [Ma.qfb,wz Gv wf (by rw [h]; decide),wz qeV wf (by rw [h]; decide),wz qbr wf (by rw [h]; decide),wz qgx wf (by rw [h]; decide),wz Gr wf (by rw [h]; decide),yC qeQ wf h]
 unfold qhF
 rw [key_of (yC qeQ wf h)]
 simp only [if_true,Bool.false_eq_true,if_false,semi,Zx,Ma.jB,Ma.bind_assoc,or_self]
theorem qiq (wf:Ma.Wf x.1) (h:Ma.kindS x.1 ≠ "skip" /\ Ma.kindS x.1 ≠ "if" /\ Ma.kindS x.1 ≠ "from" /\ Ma.kindS x.1 ≠ "call" /\ Ma.kindS x.1 ≠ "uncall" /\ Ma.kindS x.1 ≠ "local"):Ma.Sm d (x :: r)=(qd5 d (x :: r)).bind semi:=by
 obtain ⟨h1,h2,h3,h4,h5,h6⟩:=h
 rw [Ma.qfb,wz Gv wf h1,wz qeV wf h2,wz qbr wf h3,wz qgx wf h4,wz Gr wf h5,wz qeQ wf h6]
 unfold qd5
 simp only [Bool.false_eq_true,if_false,or_self,Ma.bind_assoc]
 refine Ma.qm fun a ha=>?_
 split
 ·simp only [semi,Zx,Ma.jB,Ma.bind_assoc]
 ·split
  ·simp only [semi,Zx,Ma.jB,Ma.bind_assoc]
  ·split <;> simp only [semi,Zx,Ma.jB,Ma.bind_assoc]
end
end Pg
namespace Pg
open PySem PySem.Spec PyProof.Rows L2 Xc
open Sc25 (Bytes Toks Bad Got Ex Cell Decl Proc Prog)
open Ma (PT)
theorem inS2 (k a b:Str):inV (.str k) [.str a,.str b]=decide (k=a\/k=b):=by
 simp only [inV,List.any_cons,List.any_nil,eqS,Bool.or_false]
 by_cases h1:k=a <;> by_cases h2:k=b <;> simp [h1,h2]
section
variable {P:Program} {w:World} {K:PySem.W.Frag} {mg:Str->Option Value} {base:Heap} {A:Adr}
theorem qjl (T:Txt K mg A) (B:Tbl P w K A) (d:Nat) (hd:d<=32) (hB:Ok P w K mg base (CXr P w K A.qi) (10+4 * d) A.qI ["self"] (spG K A (32-d) (Ma.Bl d) (BkR A))) :
  Ok P w K mg base (CXr P w K A.qi) (13+4 * d) A.qL ["self"] (spG K A (32-d) (Ma.Sm d) (StR A)):=by
 obtain ⟨fd,F,bi⟩:=T.yV
 obtain ⟨f1,G1,b1⟩:=j7 (P:=P) (w:=w) (base:=base) T B
 obtain ⟨f2,G2,b2⟩:=qlJ (P:=P) (w:=w) (base:=base) T B d hd
 obtain ⟨f3,G3,b3⟩:=qoF (P:=P) (w:=w) (base:=base) T B d hd hB
 obtain ⟨f4,G4,b4⟩:=qnR (P:=P) (w:=w) (base:=base) T B d hd hB
 obtain ⟨f5,G5,b5⟩:=qnY (P:=P) (w:=w) (base:=base) T B (32-d)
 obtain ⟨f6,G6,b6⟩:=qmu (P:=P) (w:=w) (base:=base) T B d hd hB
 refine ⟨fd,(F.okR (k:=12+4 * d) Wm (fun vs H Q E h=>?_) (fun cdv AA outer s H vs Q E hr h=>?_)).mono (Nat.le_of_eq (by omega)),bi⟩
 ·obtain ⟨p,sc,a,b,t,rfl,_⟩:=h
  rfl
 ·obtain ⟨p,sc,a,b,t,rfl,S,o⟩:=h
  have nd:=Wm.nd
  have hr6:=hr.mono (show 6<=12+4 * d by omega)
  have hr9:=hr.mono (show 9<=12+4 * d by omega)
  have hr2:=hr.mono (show 2<=12+4 * d by omega)
  refine ⟨_,pss_cons (ps_set (i:=1) nd rfl (Or.inl rfl) (pe_fld (pe_fld (pv 0) rfl) rfl))
   (pss_cons (ps_if (pt_cmpR op_eq (pv 1) pe_str (nomark _)) (pss_one (ps_set (i:=2) nd rfl (Or.inl rfl) (pe_meth0 (pv 0) T.qe T.Gf G2 hr b2 .nil qw)))
    (pss_one (ps_if (pt_cmpR op_eq (pv 1) pe_str (nomark _)) (pss_one (ps_set (i:=2) nd rfl (Or.inl rfl) (pe_meth0 (pv 0) T.qe T.qa8 G3 hr b3 .nil qw)))
    (pss_one (ps_if (pt_cmpR op_eq (pv 1) pe_str (nomark _)) (pss_one (ps_set (i:=2) nd rfl (Or.inl rfl) (pe_meth0 (pv 0) T.qe T.XH G4 hr b4 .nil qw)))
    (pss_one (ps_if (pt_cmpR op_in_seq (pv 1) (pe_tup (pa_cons pe_str (pa_cons pe_str pa_nil))) (by with_unfolding_all rfl)) (pss_one (ps_set (i:=2) nd rfl (Or.inl rfl) (pe_meth (pv 0) T.qe T.Xx G5 hr9 b5 .nil qw (pa_cons (pv 1) pa_nil))))
    (pss_one (ps_if (pt_cmpR op_eq (pv 1) pe_str (nomark _)) (pss_one (ps_set (i:=2) nd rfl (Or.inl rfl) (pe_meth0 (pv 0) T.qe T.GQ G6 hr b6 .nil qw)))
    (pss_cons (ps_expr (pe_meth (pv 0) T.qe T.ql G1 hr6 b1 .nil qw (pa_cons pe_str pa_nil))) (pss_one (ps_set (i:=2) nd rfl (Or.inl rfl) (qnQ T.qj9 rfl T.qjV)))))))))))))
   (pss_cons (ps_expr (pe_meth (pv 0) T.qe T.ql G1 hr6 b1 .nil qw (pa_cons pe_str pa_nil)))
   (pss_one (ps_ret (pv 2))))),?_⟩
  obtain ⟨x,r,rfl,nl,wf⟩:=S.cons
  refine S.tokE fun tk dp dt hp hdt=>?_
  refine fl1 rfl hp T.qe T.za rfl hdt T.qy T.zb rfl ?_
  refine ⟨_,rfl,rfl,_,rfl,ite2 (fun z=>?_) fun z=>?_⟩
  ·have z:=Ja z
   have nk:Ma.kindS x.1 ≠ "skip" /\ Ma.kindS x.1 ≠ "if" /\ Ma.kindS x.1 ≠ "from" /\ Ma.kindS x.1 ≠ "call" /\ Ma.kindS x.1 ≠ "uncall" /\ Ma.kindS x.1 ≠ "local" := by rw [z]; decide
   rw [qiq wf nk] at o
   refine me0 rfl hp rfl (arg0 (Yj S o (fun e r hl=>by show Ma.Lg ((Sc25.take_ ";" r).bind _); rw [Ma.jN hl]; exact .err) fun e1 t1 H1 v1 hl1 o1 n1 k1 S1=>?_))
   refine S1.obE fun dp1 tk1 hp1=>?_
   have o1:Ma.Out ((Sc25.take_ ";" t1).bind fun v=>.ok (e1,v)) (fun x t'=>∀ (H':Hp) (v:V),Kq p sc H H'->Ps K A H' p sc a b t' (32 - ↑d)->StR A (fun l=>H l=none) H' v x->Q v H') (Rz E):=o1
   refine me0 rfl hp1 rfl (arg1 (wJ Ue S1 o1 (fun r hl=>.ok hl) fun t9 H9 y9 l9 hl9 o9 k9 S9=>?_))
   exact ⟨_,rfl,(o9.ok hl9) H9 _ (k1.trans k9) S9 (n1.keep (S1.jC k9) fun _ q=>q)⟩
  have z1:=Jc z
  refine ⟨_,rfl,rfl,_,rfl,ite2 (fun z=>?_) fun z=>?_⟩
  ·have z:=Ja z
   rw [qoJ wf z] at o
   refine me0 rfl hp rfl (arg0 (Yj S o (fun e r hl=>by show Ma.Lg ((Sc25.take_ ";" r).bind _); rw [Ma.jN hl]; exact .err) fun e1 t1 H1 v1 hl1 o1 n1 k1 S1=>?_))
   refine S1.obE fun dp1 tk1 hp1=>?_
   have o1:Ma.Out ((Sc25.take_ ";" t1).bind fun v=>.ok (e1,v)) (fun x t'=>∀ (H':Hp) (v:V),Kq p sc H H'->Ps K A H' p sc a b t' (32 - ↑d)->StR A (fun l=>H l=none) H' v x->Q v H') (Rz E):=o1
   refine me0 rfl hp1 rfl (arg1 (wJ Ue S1 o1 (fun r hl=>.ok hl) fun t9 H9 y9 l9 hl9 o9 k9 S9=>?_))
   exact ⟨_,rfl,(o9.ok hl9) H9 _ (k1.trans k9) S9 (n1.keep (S1.jC k9) fun _ q=>q)⟩
  have z2:=Jc z
  refine ⟨_,rfl,rfl,_,rfl,ite2 (fun z=>?_) fun z=>?_⟩
  ·have z:=Ja z
   rw [qni wf z] at o
   refine me0 rfl hp rfl (arg0 (Yj S o (fun e r hl=>by show Ma.Lg ((Sc25.take_ ";" r).bind _); rw [Ma.jN hl]; exact .err) fun e1 t1 H1 v1 hl1 o1 n1 k1 S1=>?_))
   refine S1.obE fun dp1 tk1 hp1=>?_
   have o1:Ma.Out ((Sc25.take_ ";" t1).bind fun v=>.ok (e1,v)) (fun x t'=>∀ (H':Hp) (v:V),Kq p sc H H'->Ps K A H' p sc a b t' (32 - ↑d)->StR A (fun l=>H l=none) H' v x->Q v H') (Rz E):=o1
   refine me0 rfl hp1 rfl (arg1 (wJ Ue S1 o1 (fun r hl=>.ok hl) fun t9 H9 y9 l9 hl9 o9 k9 S9=>?_))
   exact ⟨_,rfl,(o9.ok hl9) H9 _ (k1.trans k9) S9 (n1.keep (S1.jC k9) fun _ q=>q)⟩
  have z3:=Jc z
  refine ⟨_,rfl,(by show 2<=sizeLine; decide),fun tp htp=>?_⟩
  refine ⟨tp,_,rfl,.inr (SqT.of upd_same),rfl,rfl,_,rfl,?_⟩
  have S':=S.new (o:=.tup [.str "call",.str "uncall"]) htp
  have k0:Kq p sc H (upd H tp (.tup [.str "call",.str "uncall"])):=Kp.new htp
  obtain ⟨tk',dp',dt',hp',hdt'⟩:=S'.tok
  have m0:∀ l,(upd H tp (.tup [.str "call",.str "uncall"])) l=none->H l=none:=fun l q=>Kp.free2 k0 S' q
  show if (inV (.str (Ma.kindS x.1)) [.str "call",.str "uncall"])=true then _ else _
  rw [inS2]
  refine ite2 (fun z=>?_) fun z=>?_
  ·have z:=of_decide_eq_true z
   have go:∃ kw,Ma.IsKw kw/\caS (Sc25.isKey "uncall" (x :: r))=Str.ofString kw/\Ma.kindS x.1=Str.ofString kw/\Ma.Sm d (x :: r)=(qhD kw (x :: r)).bind semi:=by
    rcases z with z | z
    ·exact ⟨"call",qgx,by rw [wz Gr wf (by rw [z]; decide)]; rfl,z,qkc (.inl rfl) qgx wf z⟩
    ·exact ⟨"uncall",Gr,by rw [yC Gr wf z]; rfl,z,qkc (.inr rfl) Gr wf z⟩
   obtain ⟨kw,hk,hkw,ek,es⟩:=go
   rw [es] at o
   refine me0 rfl hp' rfl (argv rfl ⟨p,sc,a,b,x :: r,kw,?_,hk,hkw,S',(o.bind (fun e r hl=>by show Ma.Lg ((Sc25.take_ ";" r).bind _); rw [Ma.jN hl]; exact .err)).imp (fun e1 t1 _ hl1 o1 H1 v1 k1 S1 n1=>?_) fun _ z=>z⟩)
   ·rw [ek]
    rfl
   refine S1.obE fun dp1 tk1 hp1=>?_
   have o1:Ma.Out ((Sc25.take_ ";" t1).bind fun v=>.ok (e1,v)) (fun x t'=>∀ (H':Hp) (v:V),Kq p sc H H'->Ps K A H' p sc a b t' (32 - ↑d)->StR A (fun l=>H l=none) H' v x->Q v H') (Rz E):=o1
   refine me0 rfl hp1 rfl (arg1 (wJ Ue S1 o1 (fun r hl=>.ok hl) fun t9 H9 y9 l9 hl9 o9 k9 S9=>?_))
   exact ⟨_,rfl,(o9.ok hl9) H9 _ ((k0.trans k1).trans k9) S9 ((n1.keep (S1.jC k9) fun _ q=>q).keep (fun _ _ h _ _=>h) m0)⟩
  have z4:=fun q=>z (decide_eq_true q)
  refine ⟨_,rfl,rfl,_,rfl,ite2 (fun z=>?_) fun z=>?_⟩
  ·have z:=Ja z
   rw [qmH wf z] at o
   refine me0 rfl hp' rfl (arg0 (Yj S' o (fun e r hl=>by show Ma.Lg ((Sc25.take_ ";" r).bind _); rw [Ma.jN hl]; exact .err) fun e1 t1 H1 v1 hl1 o1 n1 k1 S1=>?_))
   refine S1.obE fun dp1 tk1 hp1=>?_
   have o1:Ma.Out ((Sc25.take_ ";" t1).bind fun v=>.ok (e1,v)) (fun x t'=>∀ (H':Hp) (v:V),Kq p sc H H'->Ps K A H' p sc a b t' (32 - ↑d)->StR A (fun l=>H l=none) H' v x->Q v H') (Rz E):=o1
   refine me0 rfl hp1 rfl (arg1 (wJ Ue S1 o1 (fun r hl=>.ok hl) fun t9 H9 y9 l9 hl9 o9 k9 S9=>?_))
   exact ⟨_,rfl,(o9.ok hl9) H9 _ ((k0.trans k1).trans k9) S9 ((n1.keep (S1.jC k9) fun _ q=>q).keep (fun _ _ h _ _=>h) m0)⟩
  have z5:=Jc z
  refine me0 rfl hp' rfl ⟨p,sc,a,b,x,r,_,"skip",rfl,S',by decide,fun q=>?_,fun q y=>absurd y (wN q (by decide)),fun q _=>?_⟩
  ·rw [qiq wf ⟨q,z2,z3,fun y=>z4 (.inl y),fun y=>z4 (.inr y),z5⟩] at o
   unfold qd5 Sc25.cell at o
   rw [(Ma.Uo wf).2 z1,wV nl] at o
   exact o
  rw [qnv wf q] at o
  unfold qkq at o
  rw [key_of (yC Gv wf q)] at o
  have o1:Ma.Out ((Sc25.take_ ";" r).bind fun v=>.ok ((.skip:Sc25.St),v)) (fun x t'=>∀ (H':Hp) (v:V),Kq p sc H H'->Ps K A H' p sc a b t' (32 - ↑d)->StR A (fun l=>H l=none) H' v x->Q v H') (Rz E):=o
  refine ⟨fun hl=>?_,fun hl H1 y1 ty1 k1 S1=>?_⟩
  ·rw [Ma.jN hl] at o1
   exact o1
  refine fun z dz nz ndz nez=>?_
  have kz:Kq p sc H1 (upd (upd H1 dz (.own z)) z (.ins A.z6 dz [])):=(Kp.new ndz).trans (Kp.new (by rw [upd_ne (fun u=>nez u.symm)]; exact nz))
  have S2:=(S1.new (o:=.own z) ndz).new (l:=z) (o:=.ins A.z6 dz []) (by rw [upd_ne (fun u=>nez u.symm)]; exact nz)
  refine S2.obE fun dp2 tk2 hp2=>?_
  refine me0 rfl hp2 rfl (arg1 (wJ Ue S2 o1 (fun r hl=>.ok hl) fun t9 H9 y9 l9 hl9 o9 k9 S9=>?_))
  refine ⟨_,rfl,(o9.ok hl9) H9 _ (((k0.trans k1).trans kz).trans k9) S9 (.skip (dx:=dz) ?_)⟩
  exact S2.keep k9 upd_same Other.ins0
end
end Pg
namespace Pg
open PySem PySem.Spec PyProof.Rows L2 Xc
open Sc25 (Bytes Toks Bad Got Ex Cell Decl Proc Prog)
open Ma (PT)
section
variable {P:Program} {w:World} {K:PySem.W.Frag} {mg:Str->Option Value} {base:Heap} {A:Adr}
theorem qi7 (T:Txt K mg A) (B:Tbl P w K A) (d:Nat) (hd:d<=32) (hS:∀ d',d=d' + 1->Ok P w K mg base (CXr P w K A.qi) (13+4 * d') A.qL ["self"] (spG K A (32-d') (Ma.Sm d') (StR A))) :
  Ok P w K mg base (CXr P w K A.qi) (10+4 * d) A.qI ["self"] (spG K A (32-d) (Ma.Bl d) (BkR A)):=by
 obtain ⟨fd,F,bi⟩:=T.Xo
 obtain ⟨f2,G2,b2⟩:=qeZ (P:=P) (w:=w) (base:=base) T B
 obtain ⟨f3,G3,b3⟩:=qgX (P:=P) (w:=w) (base:=base) T B
 obtain ⟨sp5,f5,G5,b5,h5⟩:∃ (sp5:Sp) (f5:FuncData),FnOk P w K mg base (CXr P w K A.qi) (9+4 * d) A.qL f5 ["self"] sp5/\L2.Binds K f5 ["self"] []/\(d≠0->sp5=spG K A (32-(d-1:Nat)) (Ma.Sm (d-1)) (StR A)):=by
  cases d with
  | zero =>
   obtain ⟨f5,F5,b5⟩:=T.yV
   exact ⟨fun _ _ _ _=>False,f5,⟨fun _ _ _ _ h=>h.elim,fun _ _ _ _ _ _ _ _ _ _ _ _ _ h=>h.elim⟩,b5,fun h=>absurd rfl h⟩
  | succ d =>
   obtain ⟨f5,G5,b5⟩:=hS d rfl
   exact ⟨_,f5,G5.mono (by omega),b5,fun _=>rfl⟩
 refine ⟨fd,(F.okR (k:=9+4 * d) Xf (fun vs H Q E h=>?_) (fun cdv AA outer s H vs Q E hr h=>?_)).mono (Nat.le_of_eq (by omega)),bi⟩
 ·obtain ⟨p,sc,a,b,t,rfl,_⟩:=h
  rfl
 ·obtain ⟨p,sc,a,b,t,rfl,S,o⟩:=h
  have nd:=Xf.nd
  have hr7:=hr.mono (show 7<=9+4 * d by omega)
  refine ⟨_,pss_cons (ps_expr (pe_meth (pv 0) T.qe T.Ql G2 hr7 b2 .nil qw (pa_cons pe_str pa_nil)))
   (pss_cons (ps_set (i:=1) nd rfl (Or.inl rfl) (pe_lst pa_nil))
   (pss_cons (ps_while qbn (pt_cmpR op_ne (pe_fld (pe_fld (pv 0) rfl) rfl) pe_str (nomark _))
    (pss_one (ps_expr (pe_bm PySem.F.plainAttrs_list PySem.F.slot_list_append PySem.F.type_list_append mt_append (pv 1) (pa_cons (pe_meth0 (pv 0) T.qe T.Wc G5 hr b5 .nil qw) pa_nil)))))
   (pss_cons (ps_expr (pe_meth (pv 0) T.qe T.JF G3 hr7 b3 .nil qw (pa_cons pe_str pa_nil)))
   (pss_one (ps_ret (pv 1)))))),?_⟩
  obtain ⟨x0,r0,rfl,nl0,wf0⟩:=S.cons
  refine S.obE fun dp tk hp=>?_
  have sz:=S.sz
  rw [Ma.B_eq] at o
  refine ⟨_,rfl,p,dp,_,rfl,hp,rfl,p,sc,a,b,x0,r0,_,"{",rfl,S,by decide,by decide,fun q=>?_,fun q hn=>?_,fun q hn=>?_⟩
  ·rw [Qi qkW q,if_neg (by decide),wV nl0] at o
   exact o
  ·rw [Z5 qkW q] at o
   have:d=0:=by omega
   subst this
   exact o
  have d0:d≠0:=fun y=>hn (by subst y; rfl)
  rw [Z5 qkW q,if_pos rfl,if_neg d0] at o
  have o:Ma.Out (Ma.Rs (d-1) r0) _ _:=o
  refine ⟨fun hl=>?_,fun hl H1 y1 ty1 k1 S1=>?_⟩
  ·rw [Ma.qj5 hl] at o
   exact o
  have en:((32:Int)-d+1)=32-((d-1:Nat):Int):=by omega
  rw [en] at S1
  rw [<- Ma.qnV] at o
  refine ⟨Nat.zero_le _,fun l hl1=>?_⟩
  have fl:H l=none:=Kp.free2 k1 S1 hl1
  simp only [List.length_cons] at sz
  refine ⟨fun m σ H'=>∃ acc t' vs,σ=[some (.ref p),some (.ref l)]/\Kq p sc H H'/\Ps K A H' p sc a b t' (32-(d-1:Nat))/\H' l=some (.lst vs)/\SsR A (fun z=>H z=none/\z≠l) H' vs acc/\vs.length+t'.length<=r0.length /\
   Ma.Out (Ma.RsA (d-1) acc t') (fun x t'=>∀ H' v,Kq p sc H H'->Ps K A H' p sc a b t' (32-d)->BkR A (fun l=>H l=none) H' v x->Q v H') (Rz E)/\m=t'.length,
   ⟨_,[],r0,[],rfl,k1.trans (Kp.new hl1),S1.new hl1,upd_same,.nil,by simp,o,rfl⟩,?_⟩
  rintro m σ H2 ⟨acc,t2,vs,rfl,k2,S2,hl2,pr2,lv,o2,rfl⟩
  obtain ⟨x,r,rfl,nl,wf⟩:=S2.cons
  refine S2.tokE fun tk2 dp2 dt2 hp2 hdt2=>?_
  rw [Ma.qok] at o2
  refine fl1 rfl hp2 T.qe T.za rfl hdt2 T.qy T.zb rfl ⟨rfl,_,rfl,ite2 (fun z=>?_) fun z=>?_⟩
  ·have z:Ma.kindS x.1 ≠ "}" := fun q=>by rw [q] at z; exact absurd z (by decide)
   rw [Qi qm2 z] at o2
   have o2:Ma.Out ((Ma.Sm (d-1) (x :: r)).bind fun y=>Ma.RsA (d-1) (acc++[y.1]) y.2) _ _:=o2
   refine ⟨fun σ' H'=>∃ m',m' < (x :: r).length/\∃ acc t' vs,σ'=[some (.ref p),some (.ref l)]/\Kq p sc H H'/\Ps K A H' p sc a b t' (32-(d-1:Nat))/\H' l=some (.lst vs)/\SsR A (fun z=>H z=none/\z≠l) H' vs acc/\vs.length+t'.length<=r0.length /\
    Ma.Out (Ma.RsA (d-1) acc t') (fun x t'=>∀ H' v,Kq p sc H H'->Ps K A H' p sc a b t' (32-d)->BkR A (fun l=>H l=none) H' v x->Q v H') (Rz E)/\m'=t'.length,fun _ _ z=>z,?_⟩
   refine ⟨_,rfl,.inl ⟨rfl,_,SqL.of hl2⟩,me0 rfl hp2 rfl ?_⟩
   rw [h5 d0]
   refine ⟨p,sc,a,b,x :: r,rfl,S2,(o2.bind fun e r hl=>?_).imp (fun e5 t5 e5' hl5 o5 H5 v5 k5 S5 d5=>?_) fun _ z=>z⟩
   ·show Ma.Lg (Ma.RsA (d-1) (acc++[e]) r)
    unfold Ma.RsA
    rw [Ma.qj5 hl]
    exact .err
   have hl5':=S2.keep k5 hl2 (Other.lst _)
   have l5:=(Ma.qd3 _).1 _ _ _ e5'
   have l5:t5.length < (x :: r).length:=l5
   simp only [List.length_cons] at l5 lv
   have k6:Kq p sc H (upd H5 l (.lst (vs++[v5]))):=(k2.trans k5).fresh fl
   refine ⟨l,vs,_,rfl,rfl,hl5',Nat.lt_of_le_of_lt (show vs.length<=200000 by omega) (by decide),t5.length,by simp only [List.length_cons]; omega,acc++[e5],t5,vs++[v5],rfl,k6,S5.list hl5' (S.text k6),upd_same,?_,by simp; omega,o5,rfl⟩
   have KN:zF (fun z=>H z=none/\z≠l) H5 (upd H5 l (.lst (vs++[v5]))):=zF.upd hl5' (fun q=>q.2 rfl)
   have mc:∀ z,H2 z=none->H z=none/\z≠l:=fun z q=>⟨Kp.free2 k2 S2 q,fun e=>by rw [e,hl2] at q; cases q⟩
   have d6:StR A (fun z=>H z=none/\z≠l) H5 v5 e5:=d5.keep (fun _ _ h _ _=>h) mc
   exact SsR.snoc (d6.keep KN fun _ q=>q) ((pr2.keep (S2.jC k5) fun _ q=>q).keep KN fun _ q=>q)
  ·have z:Ma.kindS x.1 = "}" := qhK z
   rw [Z5 qm2 z] at o2
   have o2:Ma.Out (.ok (acc,r)) (fun x t'=>∀ H' v,Kq p sc H H'->Ps K A H' p sc a b t' (32-d)->BkR A (fun l=>H l=none) H' v x->Q v H') (Rz E):=o2
   refine ⟨_,rfl,p,dp2,_,rfl,hp2,rfl,p,sc,a,b,x,r,_,"}",rfl,S2,by decide,by decide,fun q=>absurd z q,fun _=>⟨fun hl3=>o2.lg (Ma.Lg.ok hl3),fun hl3 H3 y3 ty3 k3 S3=>?_⟩⟩
   have en3:(32-((d-1:Nat):Int)-1)=(32:Int)-d:=by omega
   rw [en3] at S3
   refine ⟨_,rfl,(o2.ok hl3) H3 _ (k2.trans k3) S3 (.mk fl (S2.keep k3 hl2 (Other.lst _)) (pr2.keep (S2.jC k3) fun _ q=>q.1))⟩
theorem ok_B (T:Txt K mg A) (B:Tbl P w K A):∀ d,d<=32->Ok P w K mg base (CXr P w K A.qi) (10+4 * d) A.qI ["self"] (spG K A (32-d) (Ma.Bl d) (BkR A)):=by
 intro d
 induction d with
 | zero=>exact fun hd=>qi7 T B 0 hd fun d' h=>absurd h (by omega)
 | succ d ih =>
  intro hd
  refine qi7 T B (d+1) hd fun d' h=>?_
  have:d'=d:=by omega
  subst this
  exact qjl T B d' (by omega) (ih (by omega))
end
end Pg
namespace Pg
open PySem PySem.Spec PyProof.Rows L2 Xc
open Sc25 (Bytes Toks Bad Got Ex Cell Decl Proc Prog)
open Ma (PT)
def PrR (A:Adr) (N:Addr->Prop) (H:Hp) (v:V) (pr:Proc):Prop:=∃ x dx nm ps bl,v=.ref x/\H x=some (.ins A.zE dx [("name",nm),("parameters",ps),("block",bl)])/\NmR A H nm (pr.p,pr.name)/\LnR (DcR A zP) N H ps pr.params/\BkR A N H bl pr.body
theorem PrR.keep {A:Adr} {N N':Addr->Prop} {H H':Hp} {v:V} {pr:Proc} (h:PrR A N H v pr) (k:zF N H H') (m:∀ l,N l->N' l):PrR A N' H' v pr:=by
 obtain ⟨x,dx,nm,ps,bl,e,h1,h2,h3,h4⟩:=h
 exact ⟨x,dx,nm,ps,bl,e,k.ins h1 (by decide) (by decide),h2.keep k.keep,(h3.keep k fun _ _ z=>z.keep k).mono m,h4.keep k m⟩
def prF (t:Toks):Got Proc:=(Sc25.key "proc" t).bind fun u=>(Sc25.aName u).bind fun n=>(Sc25.take_ "(" n.2).bind fun u=>(pmT u).bind fun a=>(Sc25.take_ ")" a.2).bind fun v=>(Ma.Bl 32 v).bind fun l=>.ok (⟨n.1.1,n.1.2,a.1,l.1⟩,l.2)
theorem qn7 (u:Toks):Ma.qgz u=(pmT u).bind fun a=>(Sc25.take_ ")" a.2).bind fun v=>.ok (a.1,v):=by
 unfold Ma.qgz pmT
 cases q:Sc25.is_ ")" u with
 | true =>
  simp only [if_true,Zx]
  show _=(Sc25.take_ ")" u).bind _
  unfold Sc25.take_
  rw [if_pos q]
  rfl
 | false=>simp only [Bool.false_eq_true,if_false,Ma.jB]
theorem qka {t:Toks} (h:Sc25.isKey "proc" t=true):Ma.Yk t=prF t:=by
 unfold Ma.Yk prF
 rw [key_of h]
 simp only [Zx,qn7,Ma.bind_assoc,Ma.jB]
 rfl
theorem qmP {r:Toks} (h:Ma.qG r=true):pmT r=.error .full:=by
 unfold pmT
 rw [Ma.jW h,Ma.qiV,Ma.qjU h]
 rfl
section
variable {P:Program} {w:World} {K:PySem.W.Frag} {mg:Str->Option Value} {base:Heap} {A:Adr}
theorem qm9 (T:Txt K mg A) (B:Tbl P w K A):Ok P w K mg base (CXr P w K A.qi) 138 A.qI ["self"] (spG K A 0 (Ma.Bl 32) (BkR A)):=ok_B T B 32 (Nat.le_refl _)
theorem qjk (T:Txt K mg A) (B:Tbl P w K A):Ok P w K mg base (CXr P w K A.qi) 139 A.qR ["self"] (spG K A 0 prF (PrR A)):=by
 obtain ⟨fd,F,bi⟩:=T.Wh
 obtain ⟨f1,G1,b1⟩:=j7 (P:=P) (w:=w) (base:=base) T B
 obtain ⟨f2,G2,b2⟩:=qiP (P:=P) (w:=w) (base:=base) T B 0
 obtain ⟨f3,G3,b3⟩:=qm9 (P:=P) (w:=w) (base:=base) T B
 obtain ⟨f4,G4,b4⟩:=qgC (P:=P) (w:=w) (base:=base) T
 refine ⟨fd,F.okR Wk (fun vs H Q E h=>?_) (fun cdv AA outer s H vs Q E hr h=>?_),bi⟩
 ·obtain ⟨p,sc,a,b,t,rfl,_⟩:=h
  rfl
 ·obtain ⟨p,sc,a,b,t,rfl,S,o⟩:=h
  have nd:=Wk.nd
  have hr6:=hr.mono (show 6<=138 by decide)
  have hr2:=hr.mono (show 2<=138 by decide)
  have hr9:=hr.mono (show 9<=138 by decide)
  refine ⟨_,pss_cons (ps_expr (pe_meth (pv 0) T.qe T.ql G1 hr6 b1 .nil qw (pa_cons pe_str pa_nil)))
   (pss_cons (ps_set (i:=1) nd rfl (Or.inl rfl) (pe_meth (pv 0) T.qe T.ql G1 hr6 b1 .nil qw (pa_cons pe_str pa_nil)))
   (pss_cons (ps_expr (pe_meth (pv 0) T.qe T.ql G1 hr6 b1 .nil qw (pa_cons pe_str pa_nil)))
   (pss_cons (ps_set (i:=2) nd rfl (Or.inl rfl) (pe_meth0 (pv 0) T.qe T.JB G2 hr9 b2 .nil qw))
   (pss_cons (ps_expr (pe_meth (pv 0) T.qe T.ql G1 hr6 b1 .nil qw (pa_cons pe_str pa_nil)))
   (pss_one (ps_ret (pe_make T.qgr G4 hr2 rfl T.qge b4 .nil pass0 (pa_cons (pv 1) (pa_cons (pv 2) (pa_cons (pe_meth0 (pv 0) T.qe T.jG G3 hr b3 .nil qw) pa_nil)))))))))),?_⟩
  unfold prF at o
  refine S.obE fun dp tk hp=>?_
  refine me0 rfl hp rfl (arg1 (qdP qh5 S o (fun r hl=>by rw [Ma.Qm hl]; exact .err) fun t1 H1 y1 l1 hl1 o1 k1 S1=>?_))
  refine S1.obE fun dp1 tk1 hp1=>?_
  refine ⟨_,rfl,p,dp1,_,rfl,hp1,rfl,arg1 (Yw S1 o1 (fun e r hl=>by show Ma.Lg ((Sc25.take_ "(" r).bind _); rw [Ma.jN hl]; exact .err) fun e2 t2 H2 v2 l2 hl2 o2 n2 k2 S2=>?_)⟩
  refine S2.obE fun dp2 tk2 hp2=>?_
  refine me0 rfl hp2 rfl (arg1 (wJ qgu S2 o2 (fun r hl=>by rw [qmP hl]; exact .err) fun t3 H3 y3 l3 hl3 o3 k3 S3=>?_))
  refine S3.obE fun dp3 tk3 hp3=>?_
  refine ⟨_,rfl,p,dp3,_,rfl,hp3,rfl,arg0 (Yj S3 o3 (fun e r hl=>by show Ma.Lg ((Sc25.take_ ")" r).bind _); rw [Ma.jN hl]; exact .err) fun e4 t4 H4 v4 hl4 o4 n4 k4 S4=>?_)⟩
  refine S4.obE fun dp4 tk4 hp4=>?_
  refine me0 rfl hp4 rfl (arg1 (wJ qcM S4 o4 (fun r hl=>by rw [Ma.qbD hl]; exact .err) fun t5 H5 y5 l5 hl5 o5 k5 S5=>?_))
  refine S5.obE fun dp5 tk5 hp5=>?_
  refine ⟨_,rfl,_,rfl,me0 rfl hp5 rfl (arg0 (Yj S5 o5 (fun e r hl=>.ok hl) fun e6 t6 H6 v6 hl6 o6 n6 k6 S6=>?_))⟩
  have o6:Ma.Out (.ok ((⟨e2.1,e2.2,e4,e6⟩:Proc),t6)) (fun x t'=>∀ (H':Hp) (v:V),Kq p sc H H'->Ps K A H' p sc a b t' 0->PrR A (fun l=>H l=none) H' v x->Q v H') (Rz E):=o6
  refine fun z dz nz ndz nez=>⟨z,dz,_,rfl,rfl,upd_same,rfl,?_⟩
  have k13:=(k1.trans k2).trans k3
  have m3:∀ l,H3 l=none->H l=none:=fun l q=>Kp.free2 k13 S3 q
  have k15:=(k13.trans k4).trans k5
  have m5:∀ l,H5 l=none->H l=none:=fun l q=>Kp.free2 k15 S5 q
  refine (o6.ok hl6) _ _ ((k15.trans k6).trans (Kp.made nz ndz)) (S6.made nz ndz) ⟨z,dz,v2,v4,v6,rfl,upd_same,?_,?_,?_⟩
  ·exact (n2.keep (S2.keeps (((k3.trans k4).trans k5).trans k6))).keep (Qj nz ndz)
  ·exact ((n4.mono m3).keep (S4.jC (k5.trans k6)) fun _ _ z=>z.keep (N:=fun _=>True) (S4.jC (k5.trans k6))).keep (zF.made nz ndz) fun _ _ z=>z.keep (N:=fun _=>True) (zF.made nz ndz)
  ·exact (n6.keep (zF.made nz ndz) m5)
end
end Pg
namespace Pg
open PySem PySem.Spec PyProof.Rows L2 Xc
open Sc25 (Bytes Toks Bad Got Ex Cell Decl Proc Prog)
open Ma (PT)
def PgR (A:Adr) (H:Hp) (v:V) (pg:Prog):Prop:=∃ x dx gl pr mn pl ps,v=.ref x/\H x=some (.ins A.z7 dx [("global_names",gl),("procedures",pr),("main",mn)])/\LnR (DcR A zG) (fun _=>True) H gl pg.globals/\(pr=.ref pl/\H pl=some (.lst ps)/\Paired (PrR A (fun _=>True) H) ps pg.procs)/\BkR A (fun _=>True) H mn pg.main
def spPg (K:PySem.W.Frag) (A:Adr):Sp:=fun vs H Q E=>∃ p sc a b t,vs=[.ref p]/\Ps K A H p sc a b t 0/\(∀ k r,(.ended,k) :: r <:+ t->r=[]) /\
 Ma.Out (Ma.vY t) (fun x _=>∀ H' v,Kq p sc H H'->PgR A H' v x->Q v H') (Rz E)
section
variable {P:Program} {w:World} {K:PySem.W.Frag} {mg:Str->Option Value} {base:Heap} {A:Adr}
abbrev behind (g:List Decl) (p:List Proc×Toks):Got Prog:=(Sc25.key "main" p.2).bind fun u=>(Ma.Bl Sc25.DEEP u).bind fun l=>if Ma.atEnd l.2=true then .ok (⟨g,p.1,l.1⟩,l.2) else Sc25.fail l.2
theorem qkJ (T:Txt K mg A) (B:Tbl P w K A):Ok P w K mg base (CXr P w K A.qi) 140 A.zg ["self"] (spPg K A):=by
 obtain ⟨fd,F,bi⟩:=T.VJ
 obtain ⟨f1,G1,b1⟩:=j7 (P:=P) (w:=w) (base:=base) T B
 obtain ⟨f2,G2,b2⟩:=qkn (P:=P) (w:=w) (base:=base) T B 0
 obtain ⟨f3,G3,b3⟩:=qm9 (P:=P) (w:=w) (base:=base) T B
 obtain ⟨f4,G4,b4⟩:=qht (P:=P) (w:=w) (base:=base) T
 obtain ⟨f5,G5,b5⟩:=qjk (P:=P) (w:=w) (base:=base) T B
 refine ⟨fd,F.okR V0 (fun vs H Q E h=>?_) (fun cdv AA outer s H vs Q E hr h=>?_),bi⟩
 ·obtain ⟨p,sc,a,b,t,rfl,_⟩:=h
  rfl
 ·obtain ⟨p,sc,a,b,t,rfl,S,hE,o⟩:=h
  have nd:=V0.nd
  have hr6:=hr.mono (show 6<=139 by decide)
  have hr2:=hr.mono (show 2<=139 by decide)
  have hr9:=hr.mono (show 9<=139 by decide)
  have hrB:=hr.mono (show 138<=139 by decide)
  refine ⟨_,pss_cons (ps_set (i:=1) nd rfl (Or.inl rfl) (pe_meth0 (pv 0) T.qe T.VN G2 hr9 b2 .nil qw))
   (pss_cons (ps_set (i:=2) nd rfl (Or.inl rfl) (pe_lst pa_nil))
   (pss_cons (ps_while qbn (pt_cmpR op_eq (pe_fld (pe_fld (pv 0) rfl) rfl) pe_str (nomark _))
    (pss_one (ps_expr (pe_bm PySem.F.plainAttrs_list PySem.F.slot_list_append PySem.F.type_list_append mt_append (pv 2) (pa_cons (pe_meth0 (pv 0) T.qe T.Wl G5 hr b5 .nil qw) pa_nil)))))
   (pss_cons (ps_expr (pe_meth (pv 0) T.qe T.ql G1 hr6 b1 .nil qw (pa_cons pe_str pa_nil)))
   (pss_cons (ps_set (i:=3) nd rfl (Or.inl rfl) (pe_meth0 (pv 0) T.qe T.jG G3 hrB b3 .nil qw))
   (pss_cons (ps_expr (pe_meth (pv 0) T.qe T.ql G1 hr6 b1 .nil qw (pa_cons pe_str pa_nil)))
   (pss_one (ps_ret (pe_make T.qhc G4 hr2 rfl T.qhw b4 .nil pass0 (pa_cons (pv 1) (pa_cons (pv 2) (pa_cons (pv 3) pa_nil))))))))))),?_⟩
  have sz:=S.sz
  refine S.obE fun dp tk hp=>?_
  have o:Ma.Out ((Ma.GC t).bind fun g=>(Ma.Pr g.2).bind (behind g.1)) (fun x _=>∀ H' v,Kq p sc H H'->PgR A H' v x->Q v H') (Rz E):=o
  have lgs:∀ (g:List Decl) (acc:List Proc) (r:Toks),Ma.qG r=true->Ma.Lg ((Ma.PrA acc r).bind (behind g)):=fun g acc r hl=>by
   rw [Ma.qjq hl]
   show Ma.Lg ((Sc25.key "main" r).bind _)
   rw [Ma.ZC hl]
   exact .err
  refine me0 rfl hp rfl ⟨p,sc,a,b,t,rfl,S,(o.bind fun e r hl=>?_).imp (fun g t1 e1 hl1 o1 H1 v1 k1 S1 n1=>?_) fun _ z=>z⟩
  ·have:=lgs e [] r hl
   rw [Ma.qhT] at this
   exact this
  have sf1:t1 <:+ t:=Ma.qn3 e1
  have ls1:=sf1.length_le
  have o1:Ma.Out ((Ma.Pr t1).bind (behind g)) (fun x _=>∀ H' v,Kq p sc H H'->PgR A H' v x->Q v H') (Rz E):=o1
  rw [<- Ma.qhT] at o1
  refine ⟨Nat.zero_le _,fun l hl=>?_⟩
  refine ⟨fun m σ H'=>∃ acc t' vs,σ=[some (.ref p),some v1,some (.ref l),none]/\Kq p sc H1 H'/\Ps K A H' p sc a b t' 0/\t' <:+ t/\H' l=some (.lst vs)/\Paired (PrR A (fun z=>H1 z=none/\z≠l) H') vs acc/\vs.length+t'.length<=t.length/\Ma.Out ((Ma.PrA acc t').bind (behind g)) (fun x _=>∀ H' v,Kq p sc H H'->PgR A H' v x->Q v H') (Rz E)/\m=t'.length,
   ⟨_,[],t1,[],rfl,Kp.new hl,S1.new hl,sf1,upd_same,.nil,by simpa using ls1,o1,rfl⟩,?_⟩
  rintro m σ H2 ⟨acc,t2,vs,rfl,k2,S2,sf2,hl2,pr2,lv,o2,rfl⟩
  obtain ⟨x,r,rfl,nl,wf⟩:=S2.cons
  refine S2.tokE fun tk2 dp2 dt2 hp2 hdt2=>?_
  rw [Ma.qk0] at o2
  refine fl1 rfl hp2 T.qe T.za rfl hdt2 T.qy T.zb rfl ⟨rfl,_,rfl,ite2 (fun z=>?_) fun z=>?_⟩
  ·have z:=Ja z
   have iy:=yC (r:=r) qh5 wf z
   rw [iy,if_pos rfl,Ma.bind_assoc,qka iy] at o2
   refine ⟨fun σ' H'=>∃ m',m' < (x :: r).length/\∃ acc t' vs,σ'=[some (.ref p),some v1,some (.ref l),none]/\Kq p sc H1 H'/\Ps K A H' p sc a b t' 0/\t' <:+ t/\H' l=some (.lst vs)/\Paired (PrR A (fun z=>H1 z=none/\z≠l) H') vs acc/\vs.length+t'.length<=t.length/\Ma.Out ((Ma.PrA acc t').bind (behind g)) (fun x _=>∀ H' v,Kq p sc H H'->PgR A H' v x->Q v H') (Rz E)/\m'=t'.length,fun _ _ z=>z,?_⟩
   refine ⟨_,rfl,.inl ⟨rfl,_,SqL.of hl2⟩,me0 rfl hp2 rfl ⟨p,sc,a,b,x :: r,rfl,S2,(o2.bind fun e r hl=>lgs g (acc++[e]) r hl).imp (fun e5 t5 e5' hl5 o5 H5 v5 k5 S5 d5=>?_) fun _ z=>z⟩⟩
   have hl5':=S2.keep k5 hl2 (Other.lst _)
   rw [<- qka iy] at e5'
   have l5:=Ma.qcS e5'
   have l5:t5.length < (x :: r).length:=l5
   have s5:t5 <:+ (x :: r):=Ma.qk8 e5'
   simp only [List.length_cons] at l5 lv
   have k6:Kq p sc H1 (upd H5 l (.lst (vs++[v5]))):=(k2.trans k5).fresh hl
   refine ⟨l,vs,_,rfl,rfl,hl5',Nat.lt_of_le_of_lt (show vs.length<=200000 by omega) (by decide),t5.length,by simp only [List.length_cons]; omega,acc++[e5],t5,vs++[v5],rfl,k6,S5.list hl5' (S1.text k6),s5.trans sf2,upd_same,?_,by simp; omega,o5,rfl⟩
   have KN:zF (fun z=>H1 z=none/\z≠l) H5 (upd H5 l (.lst (vs++[v5]))):=zF.upd hl5' (fun q=>q.2 rfl)
   have mc:∀ z,H2 z=none->H1 z=none/\z≠l:=fun z q=>⟨Kp.free2 k2 S2 q,fun e=>by rw [e,hl2] at q; cases q⟩
   exact Vz (Paired.mapP pr2 fun _ _ z=>(z.keep (S2.jC k5) fun _ q=>q).keep KN fun _ q=>q) ((d5.keep (fun _ _ h _ _=>h) mc).keep KN fun _ q=>q)
  ·have z:=Jc z
   rw [wz qh5 wf z] at o2
   have o2:Ma.Out ((Sc25.key "main" (x :: r)).bind fun u=>(Ma.Bl 32 u).bind fun l=>if Ma.atEnd l.2=true then .ok ((⟨g,acc,l.1⟩:Prog),l.2) else Sc25.fail l.2) (fun x _=>∀ H' v,Kq p sc H H'->PgR A H' v x->Q v H') (Rz E):=o2
   refine me0 rfl hp2 rfl ⟨p,sc,a,b,x,r,_,"main",rfl,S2,by decide,fun q=>?_,fun q y=>absurd y (wN q (by decide)),fun q _=>?_⟩
   ·rw [qi3 qkj wf nl q] at o2
    exact o2
   rw [qhY qkj wf q] at o2
   have o3:Ma.Out ((Ma.Bl 32 r).bind fun l=>if Ma.atEnd l.2=true then .ok ((⟨g,acc,l.1⟩:Prog),l.2) else Sc25.fail l.2) (fun x _=>∀ H' v,Kq p sc H H'->PgR A H' v x->Q v H') (Rz E):=o2
   refine ⟨fun hl3=>?_,fun hl3 H3 y3 ty3 k3 S3=>?_⟩
   ·rw [Ma.qbD hl3] at o3
    exact o3
   refine S3.obE fun dp3 tk3 hp3=>?_
   refine me0 rfl hp3 rfl ⟨p,sc,a,b,r,rfl,S3,(o3.bind fun e r' hl=>?_).imp (fun e4 t4 eq4 hl4 o4 H4 v4 k4 S4 n4=>?_) fun _ z=>z⟩
   ·obtain ⟨q1,r1,rfl⟩:=Ma.Zz hl
    exact .err
   have sf4:t4 <:+ t:=(Ma.qld eq4).trans ((List.suffix_cons _ _).trans sf2)
   have o4:Ma.Out (if Ma.atEnd t4=true then .ok ((⟨g,acc,e4⟩:Prog),t4) else Sc25.fail t4) (fun x _=>∀ H' v,Kq p sc H H'->PgR A H' v x->Q v H') (Rz E):=o4
   obtain ⟨x4,r4,rfl,nl4,wf4⟩:=S4.cons
   refine S4.obE fun dp4 tk4 hp4=>?_
   refine me0 rfl hp4 rfl ⟨p,sc,a,b,x4,r4,_,"end",rfl,S4,by decide,fun q4=>?_,fun q4 ed H5 y5 k5=>?_,fun q4 ne=>absurd ((Ma.qmQ wf4).mp q4) ne⟩
   ·have na:Ma.atEnd (x4 :: r4)=false:=by
     obtain ⟨u4,w4⟩:=x4
     cases u4 with
     | ended=>exact absurd rfl q4
     | _=>rfl
    rw [na,if_neg (by decide),wV nl4] at o4
    exact o4
   ·obtain ⟨u4,w4⟩:=x4
    have ed:u4=.ended:=ed
    subst ed
    have r0:=hE _ _ sf4
    subst r0
    have o5:Ma.Out (.ok ((⟨g,acc,e4⟩:Prog),[(.ended,w4)])) (fun x _=>∀ H' v,Kq p sc H H'->PgR A H' v x->Q v H') (Rz E):=o4
    refine ⟨_,rfl,_,rfl,_,rfl,fun z dz nz ndz nez=>⟨z,dz,_,rfl,rfl,upd_same,rfl,?_⟩⟩
    have k25:=(k3.trans k4).trans k5
    refine (o5.ok rfl) _ _ (((k1.trans k2).trans k25).trans (Kp.made nz ndz)) ⟨z,dz,v1,.ref l,v4,l,vs,rfl,upd_same,?_,⟨rfl,?_,?_⟩,?_⟩
    ·exact ((n1.mono (N':=fun _=>True) fun _ _=>trivial).keep (S1.jC (k2.trans k25)) fun _ _ z=>z.keep (N:=fun _=>True) (S1.jC (k2.trans k25))).keep (zF.made nz ndz) fun _ _ z=>z.keep (N:=fun _=>True) (zF.made nz ndz)
    ·exact zF.lst (N:=fun _=>True) (zF.made nz ndz) trivial (S2.keep k25 hl2 (Other.lst _))
    ·exact Paired.mapP pr2 fun _ _ z=>(z.keep (N':=fun _=>True) (S2.jC k25) fun _ _=>trivial).keep (zF.made nz ndz) fun _ q=>q
    ·exact (n4.keep (N':=fun _=>True) (S4.jC k5) fun _ _=>trivial).keep (zF.made nz ndz) fun _ q=>q
end
end Pg
namespace Pg
open PySem PySem.Spec PyProof.Rows L2 Xc
open Sc25 (Bytes Toks Bad Got Ex Cell Decl Proc Prog)
open Ma (PT)
def qoG (K:PySem.W.Frag) (A:Adr):Sp:=fun vs H Q E=>∃ p dp a b,vs=[.ref p,.ref a]/\H p=some (.ins A.qg dp [])/\Qk K H a b/\(∀ c ∈ b,c<=255)/\(Ma.strm b 0).length<=70000/\(Ma.qG (Ma.strm b 0)=true->Rz E .full) /\
 (Ma.qG (Ma.strm b 0)=false->∀ H' sc,Kp [p] H H'->Ps K A H' p sc a b (Ma.strm b 0) 0->Q .non H')
section
variable {P:Program} {w:World} {K:PySem.W.Frag} {mg:Str->Option Value} {base:Heap} {A:Adr}
theorem qh2 (T:Txt K mg A) (B:Tbl P w K A):Ok P w K mg base (CXr P w K A.qi) 6 A.jy ["self","text"] (qoG K A):=by
 obtain ⟨fd,F,bi⟩:=T.qdN
 obtain ⟨f1,G1,b1⟩:=qkl (P:=P) (w:=w) (base:=base) T B
 obtain ⟨f2,G2,b2⟩:=qhq (P:=P) (w:=w) (base:=base) T
 refine ⟨fd,F.okR qdO (fun vs H Q E h=>?_) (fun cdv AA outer s H vs Q E hr h=>?_),bi⟩
 ·obtain ⟨p,dp,a,b,rfl,_⟩:=h
  rfl
 ·obtain ⟨p,dp,a,b,rfl,hp,tx,low,sz,q1,q2⟩:=h
  have nd:=qdO.nd
  have hr2:=hr.mono (show 2<=5 by decide)
  refine ⟨_,pss_cons (ps_fld (pv 0) (pe_make T.qhH G2 hr2 rfl T.qhy b2 .nil pass0 (pa_cons (pv 1) pa_nil)) rfl)
   (pss_cons (ps_fld (pv 0) (pe_meth0 (pe_fld (pv 0) rfl) T.qD T.Xe G1 hr b1 .nil qw) rfl)
   (pss_one (ps_fld (pv 0) pe_int rfl))),?_⟩
  refine ⟨_,rfl,fun sc ds nz ndz nez=>⟨sc,ds,_,rfl,upd_same,rfl,?_⟩⟩
  have hpo:∀ (o0 o:HO),(upd (upd (upd H ds (.own sc)) sc o0) sc o) p=some (.ins A.qg dp []):=fun o0 o=>by
   rw [upd_ne (ne_of_none hp nz),upd_ne (ne_of_none hp nz),upd_ne (ne_of_none hp ndz)]; exact hp
  refine ⟨_,rfl,p,_,dp,_,rfl,hpo _ _,T.qe,T.QX,(by show 0 < 1000; decide),?_⟩
  have npsc:p≠sc:=ne_of_none hp nz
  have nscp:sc≠p:=fun q=>npsc q.symm
  have k0:Kp [p] H (upd (upd (upd (upd H ds (.own sc)) sc (.ins A.qC ds [])) sc (.ins A.qC ds [("text",.ref a),("position",.int 0)])) p (.ins A.qg dp [("scanner",.ref sc)])):=(Kp.made nz ndz).trans (Kp.at (by simp))
  have tx0:=tx.kp k0 (fun y hy=>⟨A.qg,dp,[],by rw [List.mem_singleton.mp hy]; exact hp⟩)
  have S0:Sn K A (upd (upd (upd (upd H ds (.own sc)) sc (.ins A.qC ds [])) sc (.ins A.qC ds [("text",.ref a),("position",.int 0)])) p (.ins A.qg dp [("scanner",.ref sc)])) sc a b 0:=⟨⟨ds,by rw [upd_ne nscp]; exact upd_same⟩,tx0,Nat.zero_le _,low⟩
  obtain ⟨d0,hs0⟩:=id S0.obj
  refine ⟨_,rfl,p,_,dp,_,_,rfl,upd_same,T.qe,T.QX,rfl,sc,d0,_,rfl,hs0,rfl,sc,a,b,0,rfl,S0,?_⟩
  obtain ⟨x,r,et⟩:∃ x r,Ma.strm b 0=x :: r:=by
   cases q:Ma.strm b 0 with
   | nil=>exact absurd q (qm0 _ _ _)
   | cons x r=>exact ⟨x,r,rfl⟩
  refine ⟨x,r,et,fun q=>?_,fun q H1 y j t1 t2 t3 t4=>?_⟩
  ·exact q1 (by rw [et]; obtain ⟨u,v⟩:=x; have q:u=.long:=q; subst q; rfl)
  have hl:Ma.qG (Ma.strm b 0)=false:=by rw [et]; obtain ⟨u,v⟩:=x; cases u <;> first | rfl | exact absurd rfl q
  have hp1:=t2.one upd_same npsc
  have wfx:Ma.Wf x.1:=Ma.qj4 b 0 x (by rw [et]; simp)
  refine ⟨_,rfl,p,_,dp,_,rfl,hp1,T.qe,T.za,(by show 1 < 1000; decide),?_⟩
  refine ⟨_,rfl,p,_,dp,_,rfl,upd_same,T.qe,T.vg,(by show 2 < 1000; decide),?_⟩
  obtain ⟨dy,hy⟩:=id t1
  obtain ⟨d1,hs1⟩:=id t3.obj
  have nyp:y≠p:=qay hy hp1 (by decide)
  refine q2 hl _ sc (fun c u e n=>?_) ⟨⟨y,j,x,r,⟨dp,upd_same⟩,⟨dy,by rw [upd_ne nyp,upd_ne nyp]; exact hy⟩,et,⟨⟨d1,by rw [upd_ne nscp,upd_ne nscp]; exact hs1⟩,?_,t3.le,t3.low⟩,t4,q,wfx⟩,sz⟩
  ·have ncp:c≠p:=fun z=>n (by rw [z]; simp)
   rw [upd_ne ncp,upd_ne ncp]
   exact t2.one (k0 c u e n) (ne_of_none e nz)
  ·refine t3.txt.kp (L:=[p]) ((Kp.at (by simp)).trans (Kp.at (by simp))) fun z hz=>?_
   rw [List.mem_singleton.mp hz]
   exact ⟨_,_,_,hp1⟩
end
end Pg
namespace Pg
open PySem PySem.Spec PyProof.Rows L2 Xc
open Sc25 (Bytes Toks Bad Got Ex Cell Decl Proc Prog)
open Ma (PT)
structure Se (A:Adr) (H:Hp) (se br pr sn:Addr) (bs:List Nat) (s:Sc25.Seen):Prop where
 obj:∃ dx,H se=some (.ins A.qt dx [("broken",.ref br),("procedures",.ref pr),("seen",.ref sn)])
 brk:H br=some (.lst (bs.map fun (q:Nat)=>V.int (q:Int)))
 sen:∃ kvs,H sn=some (.dK kvs)/\(∀ x:Bytes,valV kvs (.inr (Ma.sB x))=(s.lookup x).map V.bl)/\kvs.length<=s.length
theorem Se.add {A:Adr} {H:Hp} {se br pr sn:Addr} {bs:List Nat} {s:Sc25.Seen} (h:Se A H se br pr sn bs s) (q:Nat):Se A (upd H br (.lst ((bs.map fun (q:Nat)=>V.int (q:Int))++[.int q]))) se br pr sn (bs++[q]) s:=by
 obtain ⟨dx,ho⟩:=h.obj
 obtain ⟨kvs,hs,e⟩:=h.sen
 refine ⟨⟨dx,?_⟩,?_,kvs,?_,e⟩
 ·rw [upd_ne (ne_of ho h.brk fun q=>nomatch q)]; exact ho
 ·rw [upd_same,List.map_append]; rfl
 ·rw [upd_ne (ne_of hs h.brk fun q=>nomatch q)]; exact hs
def qmc (A:Adr):Sp:=fun vs H Q _=>∃ se br pr sn bs s y kd p x row,vs=[.ref se,.ref y,.bl row]/\Se A H se br pr sn bs s/\jU A H y kd (.str (Ma.sB x)) p/\bs.length<=400000 /\
 ∀ H',Kp [br] H H'->Se A H' se br pr sn (bs++(if s.lookup x=some row then [] else [p])) s->Q .non H'
section
variable {P:Program} {w:World} {K:PySem.W.Frag} {mg:Str->Option Value} {base:Heap} {A:Adr}
theorem qii (T:Txt K mg A):Ok P w K mg base CX0 1 A.jg ["self","name","is_row"] (qmc A):=by
 obtain ⟨fd,F,bi⟩:=T.qbH
 refine ⟨fd,F.ok qg4 (fun vs H Q E h=>?_) (fun cdv AA outer s H vs Q E hr h=>?_),bi⟩
 ·obtain ⟨se,br,pr,sn,bs,s,y,kd,p,x,row,rfl,_⟩:=h
  rfl
 ·obtain ⟨se,br,pr,sn,bs,sv,y,kd,p,x,row,rfl,S,ty,lb,q⟩:=h
  refine ⟨_,pss_one (ps_if (pt_cmpR op_ne (pe_dget1 (Nat.lt_of_le_of_lt (Nat.add_le_add_left (show 1<=64 by decide) _) hr.units) (pe_fld (pv 0) rfl) (pe_fld (pv 1) rfl) ⟨rfl,rfl,rfl,rfl⟩) (pv 2) (nomark _))
   (pss_one (ps_expr (pe_bm PySem.F.plainAttrs_list PySem.F.slot_list_append PySem.F.type_list_append mt_append (pe_fld (pv 0) rfl) (pa_cons (pe_fld (pv 1) rfl) pa_nil)))) pss_nil),?_⟩
  obtain ⟨dx,ho⟩:=S.obj
  obtain ⟨kvs,hs,hv,_⟩:=S.sen
  obtain ⟨dy,hy⟩:=id ty
  refine ⟨_,rfl,se,_,dx,_,_,rfl,ho,T.qF,T.jZ,rfl,sn,rfl,.inl ⟨kvs,.inl hs⟩,_,rfl,y,_,_,_,_,rfl,hy,T.qy,T.zV,rfl,valV kvs (.inr (Ma.sB x)),DGet.k (k:=.inr (Ma.sB x)) hs,_,rfl,?_⟩
  rw [hv]
  have e3:(bs.map fun (q:Nat)=>V.int (q:Int)).length < sizeLine:=Nat.lt_of_le_of_lt (by rw [List.length_map]; exact lb) (by decide)
  have k1:Kp [br] H (upd H br (.lst ((bs.map fun (q:Nat)=>V.int (q:Int))++[.int p]))):=Kp.at (by simp)
  cases hc:sv.lookup x with
  | none =>
   rw [hc] at q
   refine ⟨rfl,_,rfl,iteT ?_⟩
   exact ⟨_,rfl,se,_,dx,_,_,rfl,ho,T.qF,T.jt,rfl,.inl ⟨rfl,_,SqL.of S.brk⟩,_,rfl,y,_,_,_,_,rfl,hy,T.qy,T.zO,rfl,br,_,_,rfl,rfl,S.brk,e3,q _ k1 (S.add p)⟩
  | some c =>
   rw [hc] at q
   refine ⟨rfl,_,rfl,ite2 (fun z=>?_) fun z=>?_⟩
   ·have z:¬ (some c=some row):=fun y=>by
     have:c=row:=Option.some.inj y
     subst this
     exact absurd z (by show ¬ ((!decide (V.bl c=V.bl c))=true); rw [decide_eq_true rfl]; decide)
    rw [if_neg z] at q
    exact ⟨_,rfl,se,_,dx,_,_,rfl,ho,T.qF,T.jt,rfl,.inl ⟨rfl,_,SqL.of S.brk⟩,_,rfl,y,_,_,_,_,rfl,hy,T.qy,T.zO,rfl,br,_,_,rfl,rfl,S.brk,e3,q _ k1 (S.add p)⟩
   ·have z:some c=some row:=by
     apply Classical.byContradiction
     intro y
     have ne:¬ (V.bl c=V.bl row):=fun t=>y (by injection t with t; rw [t])
     exact z (by show (!decide (V.bl c=V.bl row))=true; rw [decide_eq_false ne]; rfl)
    rw [if_pos z,List.append_nil] at q
    exact q H (Kp.refl _ _) S
end
end Pg
namespace Pg
open PySem PySem.Spec PyProof.Rows L2 Xc
open Sc25 (Bytes Toks Bad Got Ex Cell Decl Proc Prog)
open Ma (PT)
theorem Se.new {A:Adr} {H:Hp} {se br pr sn l:Addr} {o:HO} {bs:List Nat} {s:Sc25.Seen} (h:Se A H se br pr sn bs s) (n:H l=none):Se A (upd H l o) se br pr sn bs s:=by
 obtain ⟨dx,ho⟩:=h.obj
 obtain ⟨kvs,hs,e⟩:=h.sen
 exact ⟨⟨dx,by rw [upd_ne (ne_of_none ho n)]; exact ho⟩,by rw [upd_ne (ne_of_none h.brk n)]; exact h.brk,kvs,by rw [upd_ne (ne_of_none hs n)]; exact hs,e⟩
theorem paired_get {α β:Type} {R:α->β->Prop}:∀ {xs:List α} {ys:List β} {i:Nat} {x:α},Paired R xs ys->xs[i]?=some x->∃ y,ys[i]?=some y/\R x y
 | _,_,0,x,.cons r t,h=>⟨_,rfl,by have:_=x:=Option.some.inj h; rw [<- this]; exact r⟩
 | _,_,i+1,x,.cons r t,h=>paired_get (i:=i) t h
theorem jK {α:Type} {l:List α} {i:Nat} {x:α} (h:l[i]?=some x):l.take (i+1)=l.take i++[x]:=by
 rw [List.take_add_one,h]; rfl
def qki (A:Adr):Sp:=fun vs H Q _=>∃ se br pr sn bs s l ts,vs=[.ref se,.ref l]/\Se A H se br pr sn bs s/\LsR A H l ts/\l≠br/\bs.length+(Ma.bads s ts).length<=400000 /\
 ∀ H',Kp [br] H H'->Se A H' se br pr sn (bs++Ma.bads s ts) s->Q .non H'
theorem qk4 (s:Sc25.Seen) (ts:List PT) (i:Nat):(Ma.bads s (ts.take i)).length<=(Ma.bads s ts).length:=by
 have e:=Ma.Z9 s (ts.take i) (ts.drop i)
 rw [List.take_append_drop] at e
 rw [e,List.length_append]
 omega
theorem PtR.tok {A:Adr} {H:Hp} {x:V} {t:PT} (h:PtR A H x t) (sv:Sc25.Seen):∃ y kd vv pl,x=.ref y/\jU A H y kd vv pl/\((∃ row z,t=.nm row pl z/\kd=(if row=true then ("row" : Str) else ("name" : Str))/\vv=.str (Ma.sB z))\/((∀ row p z,t≠.nm row p z)/\kd ≠ "name" /\ kd ≠ "row")):=by
 obtain ⟨y,e,h⟩:=h
 cases t with
 | nm row p z=>exact ⟨y,_,_,p,e,h,.inl ⟨row,z,rfl,rfl,rfl⟩⟩
 | num m=>obtain ⟨p,h⟩:=h; exact ⟨y,_,_,p,e,h,.inr ⟨fun _ _ _ q=>(nomatch q),by decide,by decide⟩⟩
 | op o p=>exact ⟨y,_,_,p,e,h,.inr ⟨fun _ _ _ q=>(nomatch q),by cases o <;> decide,by cases o <;> decide⟩⟩
 | nt=>obtain ⟨p,h⟩:=h; exact ⟨y,_,_,p,e,h,.inr ⟨fun _ _ _ q=>(nomatch q),by decide,by decide⟩⟩
theorem qlK {sv:Sc25.Seen} {t:PT} (h:∀ row p z,t≠.nm row p z):Ma.yP sv t=[]:=by
 cases t with
 | nm row p z=>exact absurd rfl (h row p z)
 | _=>rfl
theorem jU.kp {A:Adr} {H H':Hp} {br y:Addr} {kd:Str} {vv:V} {pl:Nat} {xs:List V} (h:jU A H y kd vv pl) (k:Kp [br] H H') (hb:H br=some (.lst xs)):jU A H' y kd vv pl:=by
 obtain ⟨dy,hy⟩:=h
 exact ⟨dy,k.one hy (ne_of hy hb fun q=>nomatch q)⟩
section
variable {P:Program} {w:World} {K:PySem.W.Frag} {mg:Str->Option Value} {base:Heap} {A:Adr}
theorem qgZ (T:Txt K mg A):Ok P w K mg base CX0 2 A.qY ["self","tokens"] (qki A):=by
 obtain ⟨fd,F,bi⟩:=T.WT
 obtain ⟨f1,G1,b1⟩:=qii (P:=P) (w:=w) (base:=base) T
 refine ⟨fd,F.ok WW (fun vs H Q E h=>?_) (fun cdv AA outer s H vs Q E hr h=>?_),bi⟩
 ·obtain ⟨se,br,pr,sn,bs,s,l,ts,rfl,_⟩:=h
  rfl
 ·obtain ⟨se,br,pr,sn,bs,sv,l,ts,rfl,S,⟨xs,hl,pts⟩,nlb,lb,q⟩:=h
  have nd:=WW.nd
  refine ⟨_,pss_one (ps_for PassesOwn.never rfl (pi_list (pv 1)) (pg_name (i:=2) nd rfl (Or.inl rfl))
   (pss_one (ps_if (pt_cmpR op_in_seq (pe_fld (pv 2) rfl) (pe_tup (pa_cons pe_str (pa_cons pe_str pa_nil))) (by with_unfolding_all rfl))
    (pss_one (ps_expr (pe_meth (pv 0) T.qF T.Y6 G1 hr b1 .nil pass0 (pa_cons (pv 2) (pa_cons (pe_cmpR op_eq (pe_fld (pv 2) rfl) pe_str (nomark _)) pa_nil))))) pss_nil))),?_⟩
  refine ⟨_,rfl,l,rfl,⟨xs,SqL.of hl⟩,for_list (xs:=xs) (fun i σ H'=>∃ v,σ=[some (.ref se),some (.ref l),v]/\Kp [br] H H'/\Se A H' se br pr sn (bs++Ma.bads sv (ts.take i)) sv) ⟨_,rfl,Kp.refl _ _,by simpa [Ma.bads] using S⟩ (fun i σ H' _ h=>?_) (fun i x σ H1 hx h=>?_) fun σ H1 h=>?_⟩
  ·obtain ⟨v,_,k,_⟩:=h
   exact SqL.of (k.one hl nlb)
  ·obtain ⟨v,rfl,k1,S1⟩:=h
   obtain ⟨t,ht,pt⟩:=paired_get pts hx
   obtain ⟨y,kd,vv,pl,rfl,ty,hk⟩:=pt.tok sv
   have ty1:=ty.kp k1 S.brk
   obtain ⟨dy,hy⟩:=id ty1
   have ets:=jK ht
   have lbs:=qk4 sv ts i
   have eb:Ma.bads sv (ts.take (i+1))=Ma.bads sv (ts.take i)++Ma.yP sv t:=by
    rw [ets,Ma.Z9]
    unfold Ma.bads
    simp
   refine fl0 rfl hy T.qy T.zb rfl ⟨(by show 2<=sizeLine; decide),fun tp htp=>?_⟩
   refine ⟨tp,_,rfl,.inr (SqT.of upd_same),rfl,rfl,_,rfl,?_⟩
   have S2:=S1.new (o:=.tup [.str "name",.str "row"]) htp
   have k2:Kp [br] H (upd H1 tp (.tup [.str "name",.str "row"])):=k1.trans (Kp.new htp)
   show if (inV (.str kd) [.str "name",.str "row"])=true then _ else _
   rw [inS2]
   rcases hk with ⟨row,z,rfl,rfl,rfl⟩ | ⟨hno,n1,n2⟩
   ·rw [decide_eq_true (by cases row <;> simp)]
    refine iteT ?_
    have ty2:=ty.kp k2 S.brk
    obtain ⟨dy2,hy2⟩:=id ty2
    obtain ⟨dx2,ho2⟩:=S2.obj
    refine me0 rfl ho2 rfl ⟨_,rfl,_,rfl,y,_,_,_,_,rfl,hy2,T.qy,T.zb,rfl,rfl,se,br,pr,sn,_,sv,y,_,pl,z,row,?_,S2,ty2,?_,fun H3 k3 S3=>⟨_,rfl,k2.trans k3,?_⟩⟩
    ·cases row <;> rfl
    ·rw [List.length_append]
     omega
    ·rw [eb]
     have e1:Ma.yP sv (.nm row pl z)=if sv.lookup z=some row then [] else [pl]:=rfl
     rw [e1,<- List.append_assoc]
     exact S3
   ·rw [decide_eq_false (fun q=>q.elim n1 n2)]
    refine iteF ⟨_,rfl,k2,?_⟩
    rw [eb,qlK hno,List.append_nil]
    exact S2
  ·obtain ⟨v,rfl,k1,S1⟩:=h
   have e:=Paired.length pts
   rw [e,List.take_length] at S1
   exact q H1 k1 S1
end
end Pg
namespace Pg
open PySem PySem.Spec PyProof.Rows L2 Xc
open Sc25 (Bytes Toks Bad Got Ex Cell Decl Proc Prog)
open Ma (PT)
def qoC (A:Adr):Sp:=fun vs H Q _=>∃ se br pr sn bs s l ts c no,vs=[.ref se,.ref c,.ref l]/\Se A H se br pr sn bs s/\H c=some (.lst (no.map fun (x:Bytes)=>V.str (Ma.sB x)))/\c≠br/\LsR A H l ts/\l≠br/\bs.length+(Ma.outs no ts).length<=400000 /\
 ∀ H',Kp [br] H H'->Se A H' se br pr sn (bs++Ma.outs no ts) s->Q .non H'
theorem qik (no:List Bytes) (ts:List PT) (i:Nat):(Ma.outs no (ts.take i)).length<=(Ma.outs no ts).length:=by
 have e:=Ma.VF no (ts.take i) (ts.drop i)
 rw [List.take_append_drop] at e
 rw [e,List.length_append]
 omega
theorem qlj {no:List Bytes} {t:PT} (h:∀ row p z,t≠.nm row p z):Ma.Qn no t=[]:=by
 cases t with
 | nm row p z=>exact absurd rfl (h row p z)
 | _=>rfl
theorem inNo (no:List Bytes) (z:Bytes):inV (.str (Ma.sB z)) (no.map fun (x:Bytes)=>V.str (Ma.sB x))=no.contains z:=by
 induction no with
 | nil=>rfl
 | cons a no ih =>
  rw [List.contains_cons,<- ih]
  show (eqV (.str (Ma.sB a)) (.str (Ma.sB z)) || _)=_
  rw [eqS]
  congr 1
  by_cases h:z=a
  ·subst h
   rw [decide_eq_true rfl,beq_self_eq_true]
  ·rw [decide_eq_false fun q=>h (Ma.Xq q)]
   exact (beq_eq_false_iff_ne.mpr h).symm
section
variable {P:Program} {w:World} {K:PySem.W.Frag} {mg:Str->Option Value} {base:Heap} {A:Adr}
theorem qom (T:Txt K mg A):Ok P w K mg base CX0 1 A.zW ["self","changed","tokens"] (qoC A):=by
 obtain ⟨fd,F,bi⟩:=T.qau
 refine ⟨fd,F.ok qaz (fun vs H Q E h=>?_) (fun cdv AA outer s H vs Q E hr h=>?_),bi⟩
 ·obtain ⟨se,br,pr,sn,bs,s,l,ts,c,no,rfl,_⟩:=h
  rfl
 ·obtain ⟨se,br,pr,sn,bs,sv,l,ts,c,no,rfl,S,hc,ncb,⟨xs,hl,pts⟩,nlb,lb,q⟩:=h
  have nd:=qaz.nd
  refine ⟨_,pss_one (ps_for PassesOwn.never rfl (pi_list (pv 2)) (pg_name (i:=3) nd rfl (Or.inl rfl))
   (pss_one (ps_if (pw_and (pt_cmpR op_in_seq (pe_fld (pv 3) rfl) (pe_tup (pa_cons pe_str (pa_cons pe_str pa_nil))) (by with_unfolding_all rfl)) (pw_and1 (pt_cmpR op_in_seq (pe_fld (pv 3) rfl) (pv 1) (by with_unfolding_all rfl)))).pt
    (pss_one (ps_expr (pe_bm PySem.F.plainAttrs_list PySem.F.slot_list_append PySem.F.type_list_append mt_append (pe_fld (pv 0) rfl) (pa_cons (pe_fld (pv 3) rfl) pa_nil)))) pss_nil))),?_⟩
  refine ⟨_,rfl,l,rfl,⟨xs,SqL.of hl⟩,for_list (xs:=xs) (fun i σ H'=>∃ v,σ=[some (.ref se),some (.ref c),some (.ref l),v]/\Kp [br] H H'/\Se A H' se br pr sn (bs++Ma.outs no (ts.take i)) sv) ⟨_,rfl,Kp.refl _ _,by simpa [Ma.outs] using S⟩ (fun i σ H' _ h=>?_) (fun i x σ H1 hx h=>?_) fun σ H1 h=>?_⟩
  ·obtain ⟨v,_,k,_⟩:=h
   exact SqL.of (k.one hl nlb)
  ·obtain ⟨v,rfl,k1,S1⟩:=h
   obtain ⟨t,ht,pt⟩:=paired_get pts hx
   obtain ⟨y,kd,vv,pl,rfl,ty,hk⟩:=pt.tok sv
   have ty1:=ty.kp k1 S.brk
   obtain ⟨dy,hy⟩:=id ty1
   have ets:=jK ht
   have lbs:=qik no ts i
   have lone:(Ma.outs no (ts.take (i+1))).length<=(Ma.outs no ts).length:=qik no ts (i+1)
   have eb:Ma.outs no (ts.take (i+1))=Ma.outs no (ts.take i)++Ma.Qn no t:=by
    rw [ets,Ma.VF]
    unfold Ma.outs
    simp
   refine fl0 rfl hy T.qy T.zb rfl ⟨(by show 2<=sizeLine; decide),fun tp htp=>?_⟩
   refine ⟨tp,_,rfl,.inr (SqT.of upd_same),rfl,rfl,_,rfl,?_⟩
   have S2:=S1.new (o:=.tup [.str "name",.str "row"]) htp
   have k2:Kp [br] H (upd H1 tp (.tup [.str "name",.str "row"])):=k1.trans (Kp.new htp)
   show if (inV (.str kd) [.str "name",.str "row"])=true then _ else _
   rw [inS2]
   rcases hk with ⟨row,z,rfl,rfl,rfl⟩ | ⟨hno,n1,n2⟩
   ·rw [decide_eq_true (by cases row <;> simp)]
    refine iteT ?_
    have ty2:=ty.kp k2 S.brk
    obtain ⟨dy2,hy2⟩:=id ty2
    obtain ⟨dx2,ho2⟩:=S2.obj
    refine ⟨_,rfl,y,_,_,_,_,rfl,hy2,T.qy,T.zV,rfl,_,rfl,c,_,rfl,.inl (SqL.of (k2.one hc ncb)),rfl,?_,_,rfl,?_⟩
    ·rw [List.all_map]
     exact List.all_eq_true.mpr fun _ _=>rfl
    show if (inV (.str (Ma.sB z)) (no.map fun (x:Bytes)=>V.str (Ma.sB x)))=true then _ else _
    rw [inNo]
    have e1:Ma.Qn no (.nm row pl z)=if no.contains z=true then [pl] else []:=rfl
    rw [e1] at eb
    cases hz:no.contains z with
    | true =>
     rw [hz,if_pos rfl] at eb
     refine iteT ⟨_,rfl,se,_,dx2,_,_,rfl,ho2,T.qF,T.jt,rfl,.inl ⟨rfl,_,SqL.of S2.brk⟩,_,rfl,y,_,_,_,_,rfl,hy2,T.qy,T.zO,rfl,br,_,_,rfl,rfl,S2.brk,?_,_,rfl,k2.trans (Kp.at (by simp)),?_⟩
     ·refine Nat.lt_of_le_of_lt (show _<=400000 from ?_) (by decide)
      rw [List.length_map,List.length_append]
      omega
     ·rw [eb,<- List.append_assoc]
      exact S2.add pl
    | false =>
     rw [hz] at eb
     refine iteF ⟨_,rfl,k2,?_⟩
     rw [eb]
     simpa using S2
   ·rw [decide_eq_false (fun q=>q.elim n1 n2)]
    refine iteF (iteF ⟨_,rfl,k2,?_⟩)
    rw [eb,qlj hno,List.append_nil]
    exact S2
  ·obtain ⟨v,rfl,k1,S1⟩:=h
   have e:=Paired.length pts
   rw [e,List.take_length] at S1
   exact q H1 k1 S1
end
end Pg
namespace Pg
open PySem PySem.Spec PyProof.Rows L2 Xc
open Sc25 (Bytes Toks Bad Got Ex Cell Decl Proc Prog)
open Ma (PT)
def Ext (H0 H:Hp):Prop:=Kp [] H0 H
theorem Ext.at {H0 H:Hp} (e:Ext H0 H) {x:Addr} {o:HO} (h:H0 x=some o):H x=some o:=e x o h (by simp)
theorem Ext.refl (H:Hp):Ext H H:=Kp.refl _ _
theorem Ext.kp {H0 H H':Hp} {L:List Addr} (e:Ext H0 H) (k:Kp L H H') (n:∀ x ∈ L,H0 x=none):Ext H0 H':=fun b o h _=>k b o (e.at h) fun hb=>by
 rw [n b hb] at h; cases h
theorem Ext.new {H0 H:Hp} {x:Addr} {o:HO} (e:Ext H0 H) (n:H x=none):Ext H0 (upd H x o):=Kp.trans e (Kp.new n)
theorem Ext.free {H0 H:Hp} {x:Addr} (e:Ext H0 H) (n:H x=none):H0 x=none:=by
 cases h:H0 x with
 | none=>rfl
 | some o=>rw [e.at h] at n; cases n
theorem Ext.jC {N:Addr->Prop} {H0 H:Hp} (e:Ext H0 H):zF N H0 H:=fun x o h _ _=>e.at h
theorem Ext.keep {H0 H:Hp} (e:Ext H0 H):Keep H0 H:=(e.jC (N:=fun _=>True)).keep
theorem Ext.ls {A:Adr} {H0 H:Hp} {l:Addr} {ts:List PT} (e:Ext H0 H) (h:LsR A H0 l ts):LsR A H l ts:=by
 obtain ⟨vs,h1,h2⟩:=h
 exact ⟨vs,e.at h1,h2.keep e.keep⟩
theorem LsR.ne {A:Adr} {H0:Hp} {l br:Addr} {ts:List PT} (h:LsR A H0 l ts) (n:H0 br=none):l≠br:=by
 obtain ⟨vs,h1,_⟩:=h
 exact ne_of_none h1 n
structure qbk (K:PySem.W.Frag) (C:Addr):Prop where
 ha:PySem.W.findIn K (.ref C) "__class__" = some (some (.builtin "object.__class__"))
 hn:PySem.W.specialIn K (.builtin "object.__class__") "__get__" = some (some (.builtin "getset_descriptor.__get__"))
 htk:PySem.W.takesIn K (.builtin "object.__class__")=some true
 hm:PySem.W.mroIn K C (.type "object")=some true
def rIsI (K:PySem.W.Frag):List V->Hp->VK->Prop:=fun xs H Q=>∃ a c C dx fs b,xs=[.ref a,.ref c]/\H a=some (.ins C dx fs)/\Cls K C/\qbk K C/\PySem.W.kitOne K (.ref C) (.ref c)=some b/\Q (.bl b) H
theorem VR {X:Cx}:CallR X (.builtin "isinstance") (rIsI X.K):=by
 intro pins s σ H xs us Q I r h
 obtain ⟨a,c,C,dx,fs,b,rfl,ha,cl,io,e,q⟩:=h
 cases r with
 | cons r1 rr =>
  cases rr with
  | cons r2 rr =>
   cases rr
   cases (show _=Value.ref c from r2)
   exact isinst_ok I r1 (.ins ha cl io.ha io.hn io.htk io.hm) e fun tk=>⟨.bl b,H,I.tok _,rfl,q⟩
theorem isT {K:PySem.W.Frag} {i:Nat} {c:Addr} {t u:TS} {D:Ends} {σ:L2.St} {H:Hp} {a C dx:Addr} {fs:List (Str×V)} (e:σ[i]?=some (some (.ref a))) (h:H a=some (.ins C dx fs)) (cl:Cls K C) (io:qbk K C) (k:PySem.W.kitOne K (.ref C) (.ref c)=some true) (q:t D σ H):tIfS (tB (tCB (rIsI K) (tCons (tVar i) (tCons (tC (.ref c)) tNil)))) t u D σ H:=⟨_,e,a,c,C,dx,fs,_,rfl,h,cl,io,k,_,rfl,iteT q⟩
theorem isF {K:PySem.W.Frag} {i:Nat} {c:Addr} {t u:TS} {D:Ends} {σ:L2.St} {H:Hp} {a C dx:Addr} {fs:List (Str×V)} (e:σ[i]?=some (some (.ref a))) (h:H a=some (.ins C dx fs)) (cl:Cls K C) (io:qbk K C) (k:PySem.W.kitOne K (.ref C) (.ref c)=some false) (q:u D σ H):tIfS (tB (tCB (rIsI K) (tCons (tVar i) (tCons (tC (.ref c)) tNil)))) t u D σ H:=⟨_,e,a,c,C,dx,fs,_,rfl,h,cl,io,k,_,rfl,iteF q⟩
structure Txi (K:PySem.W.Frag) (A:Adr):Prop where
 qlc:qbk K A.qK
 qjZ:qbk K A.zN
 Gh:qbk K A.qx
 qgs:qbk K A.zr
 qby:qbk K A.qJ
 qd9:qbk K A.z6
 qli:PySem.W.kitOne K (.ref A.qK) (.ref A.qK)=some true
 qmO:PySem.W.kitOne K (.ref A.zN) (.ref A.qK)=some false
 qmt:PySem.W.kitOne K (.ref A.zN) (.ref A.zN)=some true
 qhk:PySem.W.kitOne K (.ref A.qx) (.ref A.qK)=some false
 qho:PySem.W.kitOne K (.ref A.qx) (.ref A.zN)=some false
 qhC:PySem.W.kitOne K (.ref A.qx) (.ref A.qx)=some true
 qmJ:PySem.W.kitOne K (.ref A.zr) (.ref A.qK)=some false
 qmd:PySem.W.kitOne K (.ref A.zr) (.ref A.zN)=some false
 ql4:PySem.W.kitOne K (.ref A.zr) (.ref A.qx)=some false
 qmb:PySem.W.kitOne K (.ref A.zr) (.ref A.zr)=some true
 ql1:PySem.W.kitOne K (.ref A.qJ) (.ref A.qK)=some false
 qk3:PySem.W.kitOne K (.ref A.qJ) (.ref A.zN)=some false
 qls:PySem.W.kitOne K (.ref A.qJ) (.ref A.qx)=some false
 qlD:PySem.W.kitOne K (.ref A.qJ) (.ref A.zr)=some false
 qlt:PySem.W.kitOne K (.ref A.qJ) (.ref A.qJ)=some true
 ql7:PySem.W.kitOne K (.ref A.z6) (.ref A.qK)=some false
 qmD:PySem.W.kitOne K (.ref A.z6) (.ref A.zN)=some false
 ql6:PySem.W.kitOne K (.ref A.z6) (.ref A.qx)=some false
 qmX:PySem.W.kitOne K (.ref A.z6) (.ref A.zr)=some false
 qmj:PySem.W.kitOne K (.ref A.z6) (.ref A.qJ)=some false
theorem qnd {K:PySem.W.Frag} {a b:Addr} {xs ys:List V} {g:TG} {tb:TS} {D:Ends} {σ:L2.St} {H:Hp} (hlen:xs.length=ys.length) (Pv:Nat->L2.St->Hp->Prop) (h0:Pv 0 σ H) (hl:∀ i σ H,i<=xs.length->Pv i σ H->SqL K H a xs/\SqL K H b ys)
  (hs:∀ i x y T σ H,xs[i]?=some x->ys[i]?=some y->H T=none->Pv i σ H->g (.ref T) σ (upd H T (.tup [x,y])) fun σ2 H2=>tb { D with nx:=Pv (i+1),ct:=Pv (i+1),bk:=D.nx } σ2 H2) (hd:∀ σ H,Pv xs.length σ H->D.nx σ H) :
  ∃ W:Nat->Nat->L2.St->Hp->Prop,(∃ m,W 0 m σ H)/\∀ i m σ H,W i m σ H ->
   ((Itz K a b).stop i H/\D.nx σ H)\/((Itz K a b).go i H/\∃ N:L2.St->Hp->Prop,(∀ σ' H',N σ' H'->∃ m',m' < m/\W (i+1) m' σ' H')/\∀ x H',(Itz K a b).yld i H x H'->g x σ H' fun σ2 H2=>tb { D with nx:=N,ct:=N,bk:=D.nx } σ2 H2):=by
 refine ⟨fun i m σ H=>m=xs.length-i/\i<=xs.length/\Pv i σ H,⟨xs.length,by simp,Nat.zero_le _,h0⟩,?_⟩
 rintro i m σ H ⟨rfl,hi,p⟩
 obtain ⟨q1,q2⟩:=hl i σ H hi p
 by_cases hlt:i < xs.length
 ·have hlt2:i < ys.length:=hlen ▸ hlt
  refine .inr ⟨⟨xs,ys,xs[i],ys[i],q1,q2,by simp [hlt],by simp [hlt2]⟩,Pv (i+1),fun σ' H' p'=>⟨xs.length-(i+1),by omega,rfl,hlt,p'⟩,fun v H' y=>?_⟩
  obtain ⟨T,x,z,rfl,hT,rfl,e1,e2⟩:=y
  exact hs i x z T σ H (e1 xs q1) (e2 ys q2) hT p
 ·have e:i=xs.length:=by omega
  subst e
  exact .inl ⟨⟨xs,ys,q1,q2,.inl (Nat.le_refl _)⟩,hd σ H p⟩
theorem qlR {xs:List V} {v:V}:cutV (xs++[v]) none (some (-1))=xs:=by
 unfold cutV
 have e:HT.sIx (xs++[v]).length (xs++[v]).length (some (-1))=xs.length:=by
  show (if (-1:Int) < 0 then ((-1:Int)+((xs++[v]).length:Int)).toNat else min (-1:Int).toNat (xs++[v]).length)=xs.length
  rw [if_pos (by decide),List.length_append]
  simp only [List.length_singleton]
  omega
 rw [e]
 show ((xs++[v]).drop 0).take (xs.length-0)=xs
 simp
theorem qfh {α β:Type} {R:α->β->Prop}:∀ {ys:List β} {xs:List α} {y:β},Paired R xs (ys++[y])->∃ xs' x,xs=xs'++[x]/\Paired R xs' ys/\R x y
 | [],_,_,.cons r .nil=>⟨[],_,rfl,.nil,r⟩
 | _ :: ys,_,y,.cons r t=>by
  obtain ⟨xs',x,e,p,q⟩:=qfh (ys:=ys) t
  exact ⟨_ :: xs',x,by rw [e]; rfl,.cons r p,q⟩
end Pg
namespace Pg
open PySem PySem.Spec PyProof.Rows L2 Xc
open Sc25 (Bytes Toks Bad Got Ex Cell Decl Proc Prog)
open Ma (PT)
def VrR (A:Adr) (br:Addr) (H:Hp) (v:V) (c:Cell):Prop:=∃ l,v=.ref l/\l≠br/\LsR A H l (Ma.postC c)
def noOf (cs:List Cell):List Bytes:=cs.map (·.x)
def chW (s:Sc25.Seen) (cs:List Cell) (ets:List PT):List Nat:=cs.flatMap (Ma.vX s (noOf cs))++(Ma.bads s ets++Ma.outs (noOf cs) ets)
def ql5 (A:Adr):Sp:=fun vs H Q _=>∃ se br pr sn bs s vl el vars cs ets,vs=[.ref se,.ref vl,.ref el]/\Se A H se br pr sn bs s/\H vl=some (.lst vars)/\vl≠br/\Paired (VrR A br H) vars cs/\LsR A H el ets/\el≠br/\cs.length<=2/\bs.length+(chW s cs ets).length<=400000 /\
 ∀ H',Kp [br] H H'->Se A H' se br pr sn (bs++chW s cs ets) s->Q .non H'
def qcJ (c:Cell):List PT:=(Ma.postC c).dropLast
theorem qkO (c:Cell):∃ row,Ma.postC c=qcJ c++[.nm row c.p c.x]:=by
 obtain ⟨p,x,i⟩:=c
 cases i with
 | none=>exact ⟨false,rfl⟩
 | some i=>exact ⟨true,by unfold qcJ Ma.postC; rw [List.dropLast_concat]⟩
theorem LsR.kp {A:Adr} {H H':Hp} {br l:Addr} {ts:List PT} {xs:List V} (h:LsR A H l ts) (k:Kp [br] H H') (hb:H br=some (.lst xs)) (n:l≠br):LsR A H' l ts:=by
 obtain ⟨vs,h1,h2⟩:=h
 refine ⟨vs,k.one h1 n,Paired.mapP h2 fun v t z=>?_⟩
 obtain ⟨x,e,z⟩:=z
 refine ⟨x,e,?_⟩
 cases t with
 | nm row p y=>exact z.kp k hb
 | num m=>obtain ⟨p,z⟩:=z; exact ⟨p,z.kp k hb⟩
 | op o p=>exact z.kp k hb
 | nt=>obtain ⟨p,z⟩:=z; exact ⟨p,z.kp k hb⟩
theorem VrR.kp {A:Adr} {H H':Hp} {br:Addr} {v:V} {c:Cell} {xs:List V} (h:VrR A br H v c) (k:Kp [br] H H') (hb:H br=some (.lst xs)):VrR A br H' v c:=by
 obtain ⟨l,e,n,h⟩:=h
 exact ⟨l,e,n,h.kp k hb n⟩
theorem LsR.cell {A:Adr} {H:Hp} {l:Addr} {c:Cell} (h:LsR A H l (Ma.postC c)):∃ xs y kd,H l=some (.lst (xs++[.ref y]))/\Pts A H xs (qcJ c)/\jU A H y kd (.str (Ma.sB c.x)) c.p:=by
 obtain ⟨vs,h1,h2⟩:=h
 obtain ⟨row,e⟩:=qkO c
 rw [e] at h2
 obtain ⟨xs,x,e1,p,y,e2,q⟩:=qfh h2
 subst e1 e2
 exact ⟨xs,y,_,h1,p,q⟩
theorem yesT {σ:L2.St} {H:Hp} {F G:Bool->Hp->Prop} (h:F true H):tYes σ H (fun b H3=>if b=true then F b H3 else G b H3):=by
 show (if true=true then F true H else G true H)
 rw [if_pos rfl]
 exact h
theorem qi5 {α:Type} {l:List α} {i:Nat} {x:α} (h:l[i]?=some x):l=l.take i++(x :: l.drop (i+1)):=by
 have hi:i < l.length:=(List.getElem?_eq_some_iff.mp h).1
 have e:l[i]=x:=(List.getElem?_eq_some_iff.mp h).2
 rw [<- e,<- List.drop_eq_getElem_cons hi,List.take_append_drop]
section
variable {P:Program} {w:World} {K:PySem.W.Frag} {mg:Str->Option Value} {base:Heap} {A:Adr}
theorem qko (T:Txt K mg A):Ok P w K mg base CX0 3 A.qQ ["self","variables","expression"] (ql5 A):=by
 obtain ⟨fd,F,bi⟩:=T.JW
 obtain ⟨f1,G1,b1⟩:=qgZ (P:=P) (w:=w) (base:=base) T
 obtain ⟨f2,G2,b2⟩:=qom (P:=P) (w:=w) (base:=base) T
 refine ⟨fd,F.ok JR (fun vs H Q E h=>?_) (fun cdv AA outer s H vs Q E hr h=>?_),bi⟩
 ·obtain ⟨se,br,pr,sn,bs,s,vl,el,vars,cs,ets,rfl,_⟩:=h
  rfl
 ·obtain ⟨se,br,pr,sn,bs,sv,vl,el,vars,cs,ets,rfl,S,hv,nvb,pv',le,neb,lcs,lb,q⟩:=h
  have nd:=JR.nd
  have hr1:=hr.mono (show 1<=2 by decide)
  refine ⟨_,pss_cons (ps_setLc (i:=3) (own:=[("variable",4)]) (te:=tFld K (tOp (rIxL K) (tVar 4) (tUn (rU fun i=>V.int (-i)) (tC (V.int 1)))) "value") rfl nd rfl rfl (sw_true rfl rfl rfl rfl) (pi_list (pv 1)) (blkOk_by (by rfl)) (fun _ _ _ _ _=>pg_name (i:=4) nd rfl (Or.inl rfl) (.inr rfl)) (fun _ _ _ _ _=>pts_nil) (fun _ _ _ _ _=>by exact pe_fld (pe_ix ix_list (pv 4) (pe_un un_neg pe_int) (fun _ _=>rfl)) rfl))
   (pss_cons (ps_for PassesOwn.never rfl (pi_list (pv 1)) (pg_name (i:=4) nd rfl (Or.inl rfl))
    (pss_cons (ps_expr (pe_meth (pv 0) T.qF T.jD G1 hr b1 .nil pass0 (pa_cons (pv 4) pa_nil)))
    (pss_one (ps_expr (pe_meth (pv 0) T.qF T.Wi G2 hr1 b2 .nil pass0 (pa_cons (pv 3) (pa_cons (pe_slice sl_list (pv 4) po_none (po_some (pe_un un_neg pe_int))) pa_nil)))))))
   (pss_cons (ps_expr (pe_meth (pv 0) T.qF T.jD G1 hr b1 .nil pass0 (pa_cons (pv 2) pa_nil)))
   (pss_one (ps_expr (pe_meth (pv 0) T.qF T.Wi G2 hr1 b2 .nil pass0 (pa_cons (pv 3) (pa_cons (pv 2) pa_nil))))))),?_⟩
  have lvc:=Paired.length pv'
  refine ⟨_,rfl,vl,rfl,⟨vars,SqL.of hv⟩,fun D hD=>lc_list (xs:=vars) (fun i H'=>H'=upd H D (.lst ((noOf (cs.take i)).map fun (x:Bytes)=>V.str (Ma.sB x)))) rfl (fun i H' _ h=>?_) (fun i x H' hx h=>?_) fun H' h=>?_⟩
  ·subst h
   exact SqL.of (by rw [upd_ne (ne_of_none hv hD)]; exact hv)
  ·subst h
   obtain ⟨c,hc,l,rfl,nl,hl⟩:=paired_get pv' hx
   obtain ⟨xs,y,kd,h1,h2,dy,h3⟩:=hl.cell
   have h1':(upd H D (.lst ((noOf (cs.take i)).map fun (x:Bytes)=>V.str (Ma.sB x)))) l=some (.lst (xs++[.ref y])):=by rw [upd_ne (ne_of_none h1 hD)]; exact h1
   have h3':(upd H D (.lst ((noOf (cs.take i)).map fun (x:Bytes)=>V.str (Ma.sB x)))) y=_:=(upd_ne (ne_of_none h3 hD)).trans h3
   refine ⟨rfl,?_⟩
   refine yesT ⟨_,rfl,1,rfl,l,_,_,_,rfl,rfl,SqL.of h1',atI_last,y,_,_,_,_,rfl,h3',T.qy,T.zV,rfl,_,upd_same,?_,?_⟩
   ·refine Nat.lt_of_le_of_lt (show _<=2 from ?_) (by decide)
    rw [List.length_map,noOf,List.length_map,List.length_take]
    omega
   ·rw [upd_upd,jK hc]
    congr 2
    simp [noOf]
  subst h
  rw [lvc,List.take_length]
  generalize hno:noOf cs=no at lb q
  have k0:Kp [br] H (upd H D (.lst (no.map fun (x:Bytes)=>V.str (Ma.sB x)))):=Kp.new hD
  have S0:=S.new (o:=.lst (no.map fun (x:Bytes)=>V.str (Ma.sB x))) hD
  have nDb:D≠br:=fun z=>by rw [z,S.brk] at hD; cases hD
  have eW:chW sv cs ets=cs.flatMap (Ma.vX sv no)++(Ma.bads sv ets++Ma.outs no ets):=by unfold chW; rw [hno]
  rw [eW] at lb q
  simp only [List.length_append] at lb
  have part:∀ i c,cs[i]?=some c->((cs.take i).flatMap (Ma.vX sv no)).length+((Ma.bads sv (Ma.postC c)).length+(Ma.outs no (qcJ c)).length)<=(cs.flatMap (Ma.vX sv no)).length:=fun i c h=>by
   conv=>rhs; rw [qi5 h]
   rw [List.flatMap_append,List.flatMap_cons,List.length_append,List.length_append]
   have:(Ma.vX sv no c).length=(Ma.bads sv (Ma.postC c)).length+(Ma.outs no (qcJ c)).length:=by unfold Ma.vX qcJ; rw [List.length_append]
   omega
  refine ⟨_,rfl,vl,rfl,⟨vars,SqL.of (k0.one hv nvb)⟩,for_list (xs:=vars) (fun i σ H'=>∃ v,σ=[some (.ref se),some (.ref vl),some (.ref el),some (.ref D),v]/\Kp [br] H H'/\H' D=some (.lst (no.map fun (x:Bytes)=>V.str (Ma.sB x)))/\Se A H' se br pr sn (bs++(cs.take i).flatMap (Ma.vX sv no)) sv) ⟨_,rfl,k0,upd_same,by simpa using S0⟩ (fun i σ H' _ h=>?_) (fun i x σ H1 hx h=>?_) fun σ H1 h=>?_⟩
  ·obtain ⟨v,_,k,_⟩:=h
   exact SqL.of (k.one hv nvb)
  ·obtain ⟨v,rfl,k1,hD1,S1⟩:=h
   obtain ⟨c,hc,vr⟩:=paired_get pv' hx
   have pc:=part i c hc
   obtain ⟨l,rfl,nl,hl⟩:=vr.kp k1 S.brk
   obtain ⟨dx1,ho1⟩:=S1.obj
   refine me0 rfl ho1 rfl ⟨_,rfl,se,br,pr,sn,_,sv,l,_,rfl,S1,hl,nl,?_,fun H2 k2 S2=>?_⟩
   ·rw [List.length_append]; omega
   obtain ⟨dx2,ho2⟩:=S2.obj
   have hl2:=hl.kp k2 S1.brk nl
   obtain ⟨xs,y,kd,h1,h2,_⟩:=hl2.cell
   have hD2:=k2.one hD1 nDb
   refine me0 rfl ho2 rfl ⟨_,rfl,_,rfl,1,rfl,_,rfl,l,_,rfl,SqL.of h1,fun p hp=>?_⟩
   rw [qlR]
   have S3:=S2.new (o:=.lst xs) hp
   have k3:Kp [br] H2 (upd H2 p (.lst xs)):=Kp.new hp
   have npb:p≠br:=fun z=>by rw [z,S2.brk] at hp; cases hp
   have hp3:LsR A (upd H2 p (.lst xs)) p (qcJ c):=⟨xs,upd_same,Paired.mapP h2 fun v t z=>z.keep (UT hp)⟩
   refine ⟨se,br,pr,sn,_,sv,p,_,D,no,rfl,S3,k3.one hD2 nDb,nDb,hp3,npb,?_,fun H4 k4 S4=>⟨_,rfl,((k1.trans k2).trans k3).trans k4,k4.one (k3.one hD2 nDb) nDb,?_⟩⟩
   ·rw [List.length_append,List.length_append]; omega
   ·rw [jK hc,List.flatMap_append,List.flatMap_cons,List.flatMap_nil,List.append_nil]
    have:Ma.vX sv no c=Ma.bads sv (Ma.postC c)++Ma.outs no (qcJ c):=rfl
    rw [this,<- List.append_assoc,<- List.append_assoc]
    exact S4
  ·obtain ⟨v,rfl,k1,hD1,S1⟩:=h
   rw [lvc,List.take_length] at S1
   have le1:=le.kp k1 S.brk neb
   obtain ⟨dx1,ho1⟩:=S1.obj
   refine me0 rfl ho1 rfl ⟨_,rfl,se,br,pr,sn,_,sv,el,_,rfl,S1,le1,neb,?_,fun H2 k2 S2=>?_⟩
   ·rw [List.length_append]; omega
   obtain ⟨dx2,ho2⟩:=S2.obj
   have le2:=le1.kp k2 S1.brk neb
   refine me0 rfl ho2 rfl ⟨_,rfl,_,rfl,se,br,pr,sn,_,sv,el,_,D,no,rfl,S2,k2.one hD1 nDb,nDb,le2,neb,?_,fun H3 k3 S3=>q H3 ((k1.trans k2).trans k3) ?_⟩
   ·rw [List.length_append,List.length_append]; omega
   ·rw [<- List.append_assoc,<- List.append_assoc]
    exact S3
end
end Pg
namespace Pg
open PySem PySem.Spec PyProof.Rows L2 Xc
open Sc25 (Bytes Toks Bad Got Ex Cell Decl Proc Prog)
open Ma (PT)
def DpR (A:Adr) (H0 H:Hp) (pr:Addr) (pg:Prog):Prop:=∃ kvs,H pr=some (.dK kvs)/\∀ x:Bytes,(pg.proc x=none/\valV kvs (.inr (Ma.sB x))=none)\/∃ d v,pg.proc x=some d/\valV kvs (.inr (Ma.sB x))=some v/\PrR A (fun _=>True) H0 v d
theorem DpR.kp {A:Adr} {H0 H H':Hp} {L:List Addr} {pr:Addr} {pg:Prog} (h:DpR A H0 H pr pg) (k:Kp L H H') (n:pr ∉ L):DpR A H0 H' pr pg:=by
 obtain ⟨kvs,h1,h2⟩:=h
 exact ⟨kvs,k _ _ h1 n,h2⟩
def caW (pg:Prog) (s:Sc25.Seen) (p:Nat) (y:Bytes) (args:List (Nat×Bytes)):List Nat:=match pg.proc y with
 | some d=>if d.params.length=args.length then Ma.vV s [] args d.params else [p]
 | none=>[p]
def qnu (A:Adr) (pg:Prog):Sp:=fun vs H Q _=>∃ H0 se br pr sn bs s st dx wd f hs p y args,vs=[.ref se,.ref st]/\Se A H se br pr sn bs s/\Ext H0 H/\H0 br=none/\DpR A H0 H pr pg /\
 H0 st=some (.ins A.zr dx [("kind",wd),("procedure",f),("handed",hs)])/\NmR A H0 f (p,y)/\LnR (NmR A) (fun _=>True) H0 hs args/\args.length<=70000/\bs.length+(caW pg s p y args).length<=400000 /\
 ∀ H',Kp [br] H H'->Se A H' se br pr sn (bs++caW pg s p y args) s->Q .non H'
theorem Se.kp2 {A:Adr} {H:Hp} {se br pr sn l:Addr} {o:HO} {bs:List Nat} {s:Sc25.Seen} (h:Se A H se br pr sn bs s) (n1:l≠se) (n2:l≠br) (n3:l≠sn):Se A (upd H l o) se br pr sn bs s:=by
 obtain ⟨dx,ho⟩:=h.obj
 obtain ⟨kvs,hs,e⟩:=h.sen
 exact ⟨⟨dx,by rw [upd_ne n1.symm]; exact ho⟩,by rw [upd_ne n2.symm]; exact h.brk,kvs,by rw [upd_ne n3.symm]; exact hs,e⟩
theorem qkR {s:Sc25.Seen} {args:List (Nat×Bytes)} {ps:List Decl} {i:Nat} {a:Nat×Bytes} {d:Decl} {met:List Bytes} (ha:args[i]?=some a) (hd:ps[i]?=some d) :
  Ma.vV s met (args.drop i) (ps.drop i)=(if s.lookup a.2=some d.row.isSome then [] else [a.1])++((if met.contains a.2=true then [a.1] else [])++Ma.vV s (met++[a.2]) (args.drop (i+1)) (ps.drop (i+1))):=by
 have h1:i < args.length:=(List.getElem?_eq_some_iff.mp ha).1
 have h2:i < ps.length:=(List.getElem?_eq_some_iff.mp hd).1
 have e1:args[i]=a:=(List.getElem?_eq_some_iff.mp ha).2
 have e2:ps[i]=d:=(List.getElem?_eq_some_iff.mp hd).2
 rw [List.drop_eq_getElem_cons h1,List.drop_eq_getElem_cons h2,e1,e2]
 rfl
section
variable {P:Program} {w:World} {K:PySem.W.Frag} {mg:Str->Option Value} {base:Heap} {A:Adr}
theorem qma (T:Txt K mg A) (pg:Prog):Ok P w K mg base CX0 2 A.zm ["self","statement"] (qnu A pg):=by
 obtain ⟨fd,F,bi⟩:=T.Yb
 obtain ⟨f1,G1,b1⟩:=qii (P:=P) (w:=w) (base:=base) T
 refine ⟨fd,F.ok V6 (fun vs H Q E h=>?_) (fun cdv AA outer s H vs Q E hr h=>?_),bi⟩
 ·obtain ⟨H0,se,br,pr,sn,bs,s,st,dx,wd,f,hs,p,y,args,rfl,_⟩:=h
  rfl
 ·obtain ⟨H0,se,br,pr,sn,bs,sv,st,dxs,wd,f,hs,p,y,args,rfl,S,ex,nbr,⟨kvs,hpr,hp⟩,hst,⟨fy,rfl,tf⟩,⟨hl,hvs,rfl,_,hhl,phs⟩,la,lb,q⟩:=h
  have nd:=V6.nd
  have hu:∀ {A:Around},Room 1 A->A.units+1 < cLine:=fun hr=>Nat.lt_of_le_of_lt (Nat.add_le_add_left (show 1<=64 by decide) _) hr.units
  refine ⟨_,pss_cons (ps_set (i:=2) nd rfl (Or.inl rfl) (pe_dget1 (hu hr) (pe_fld (pv 0) rfl) (pe_fld (pe_fld (pv 1) rfl) rfl) ⟨rfl,rfl,rfl,rfl⟩))
   (pss_cons (ps_if (pw_or (pt_cmpR op_isN (pv 2) pe_non (nomark _)) (pw_or1 (pt_cmpR op_ne (pe_callB call_len_seq (by rfl) T.Ke PySem.boot_len (pa_cons (pe_fld (pv 2) rfl) pa_nil)) (pe_callB call_len_seq (by rfl) T.Ke PySem.boot_len (pa_cons (pe_fld (pv 1) rfl) pa_nil)) (nomark _)))).pt
    (pss_cons (ps_expr (pe_bm PySem.F.plainAttrs_list PySem.F.slot_list_append PySem.F.type_list_append mt_append (pe_fld (pv 0) rfl) (pa_cons (pe_fld (pe_fld (pv 1) rfl) rfl) pa_nil))) (pss_one ps_retN)) pss_nil)
   (pss_cons (ps_set (i:=3) nd rfl (Or.inl rfl) pe_dnewK)
   (pss_one (ps_for PassesOwn.never rfl (pi_zip (by rfl) T.qm1 (pa_cons (pe_fld (pv 1) rfl) (pa_cons (pe_fld (pv 2) rfl) pa_nil))) (pg_tup rfl (pgs_cons (pg_name (i:=4) nd rfl (Or.inl rfl)) (pgs_cons (pg_name (i:=5) nd rfl (Or.inl rfl)) pgs_nil)))
    (pss_cons (ps_expr (pe_meth (pv 0) T.qF T.Y6 G1 hr b1 .nil pass0 (pa_cons (pv 4) (pa_cons (pe_fld (pv 5) rfl) pa_nil))))
    (pss_cons (ps_if (pt_cmp (pc_din (hu hr) (pe_fld (pv 4) rfl) (pv 3)))
     (pss_one (ps_expr (pe_bm PySem.F.plainAttrs_list PySem.F.slot_list_append PySem.F.type_list_append mt_append (pe_fld (pv 0) rfl) (pa_cons (pe_fld (pv 4) rfl) pa_nil)))) pss_nil)
    (pss_one (ps_dput (hu hr) (pv 3) (pe_fld (pv 4) rfl) pe_bl rfl)))))))),?_⟩
  obtain ⟨dx,ho⟩:=S.obj
  obtain ⟨dfy,hfy⟩:=id tf
  have hst1:=ex.at hst
  have hfy1:=ex.at hfy
  have hhl1:=ex.at hhl
  refine ⟨_,rfl,se,_,dx,_,_,rfl,ho,T.qF,T.wB,rfl,pr,rfl,.inl ⟨kvs,.inl hpr⟩,_,rfl,st,_,dxs,_,_,rfl,hst1,T.Zk,T.vO,rfl,fy,_,_,_,_,rfl,hfy1,T.qy,T.zV,rfl,valV kvs (.inr (Ma.sB y)),DGet.k (k:=.inr (Ma.sB y)) hpr,?_⟩
  have hnot:caW pg sv p y args=[p]->∃ d fs,H se=some (.ins A.qt d fs):=fun _=>⟨dx,_,ho⟩
  have e3:(bs.map fun (q:Nat)=>V.int (q:Int)).length < sizeLine:=Nat.lt_of_le_of_lt (show _<=400000 by rw [List.length_map]; omega) (by decide)
  have k1:Kp [br] H (upd H br (.lst ((bs.map fun (q:Nat)=>V.int (q:Int))++[.int p]))):=Kp.at (by simp)
  rcases hp y with ⟨e1,e2⟩ | ⟨d,v,e1,e2,px,dpx,nm,pps,pbl,rfl,hpx,nmr,⟨pl,pvs,rfl,_,hpl,pps'⟩,_⟩
  ·rw [e2]
   have ec:caW pg sv p y args=[p]:=by unfold caW; rw [e1]
   rw [ec] at q
   refine ⟨_,rfl,rfl,_,rfl,iteT (iteT ?_)⟩
   exact ⟨_,rfl,se,_,dx,_,_,rfl,ho,T.qF,T.jt,rfl,.inl ⟨rfl,_,SqL.of S.brk⟩,_,rfl,st,_,dxs,_,_,rfl,hst1,T.Zk,T.vO,rfl,fy,_,_,_,_,rfl,hfy1,T.qy,T.zO,rfl,br,_,_,rfl,rfl,S.brk,e3,q _ k1 (S.add p)⟩
  ·rw [e2]
   have hpx1:=ex.at hpx
   have hpl1:=ex.at hpl
   have lh:=Paired.length phs
   have lp:=Paired.length pps'
   have ec:caW pg sv p y args=if d.params.length=args.length then Ma.vV sv [] args d.params else [p]:=by unfold caW; rw [e1]
   rw [ec] at q lb
   refine ⟨_,rfl,rfl,_,rfl,iteF (fl0 rfl hpx1 T.j9 T.jO rfl ⟨pl,_,rfl,.inl (SqL.of hpl1),fl0 rfl hst1 T.Zk T.WF rfl ⟨hl,_,rfl,.inl (SqL.of hhl1),rfl,_,rfl,?_⟩⟩)⟩
   rw [lh,lp]
   refine ite2 (fun z=>?_) fun z=>?_
   ·have z:¬ d.params.length=args.length:=fun u=>by
     have z:(!decide (V.int (d.params.length:Nat)=V.int (args.length:Nat)))=true:=z
     rw [u,decide_eq_true rfl] at z
     cases z
    rw [if_neg z] at q
    exact ⟨_,rfl,se,_,dx,_,_,rfl,ho,T.qF,T.jt,rfl,.inl ⟨rfl,_,SqL.of S.brk⟩,_,rfl,st,_,dxs,_,_,rfl,hst1,T.Zk,T.vO,rfl,fy,_,_,_,_,rfl,hfy1,T.qy,T.zO,rfl,br,_,_,rfl,rfl,S.brk,e3,q _ k1 (S.add p)⟩
   have z:d.params.length=args.length:=by
    apply Classical.byContradiction
    intro u
    refine z ?_
    show (!decide (V.int (d.params.length:Nat)=V.int (args.length:Nat)))=true
    rw [decide_eq_false fun t=>u (by injection t with t; exact Int.ofNat.inj t)]
    rfl
   rw [if_pos z] at q lb
   refine fun mt hmt=>?_
   have S0:=S.new (o:=.dK []) hmt
   have nmb:mt≠br:=fun u=>by rw [u,S.brk] at hmt; cases hmt
   have nms:mt≠se:=fun u=>by rw [u,ho] at hmt; cases hmt
   have nmn:mt≠sn:=fun u=>by
    obtain ⟨ks,hk,_⟩:=S.sen
    rw [u,hk] at hmt; cases hmt
   have ex0:Ext H0 (upd H mt (.dK [])):=ex.new hmt
   have nm0:H0 mt=none:=ex.free hmt
   refine ⟨_,rfl,st,_,dxs,_,_,rfl,ex0.at hst,T.Zk,T.WF,rfl,_,rfl,px,_,dpx,_,_,rfl,ex0.at hpx,T.j9,T.jO,rfl,hl,pl,hvs,pvs,rfl,SqL.of (ex0.at hhl),SqL.of (ex0.at hpl),?_⟩
   refine qnd (xs:=hvs) (ys:=pvs) (by rw [lh,lp,z]) (fun i σ H'=>∃ v4 v5 cur ks,σ=[some (.ref se),some (.ref st),some (.ref px),some (.ref mt),v4,v5]/\Kp [br] H H'/\Ext H0 H'/\Se A H' se br pr sn cur sv/\H' mt=some (.dK ks)/\ks.length<=i/\(∀ x:Bytes,(valV ks (.inr (Ma.sB x))).isSome=((args.take i).map (·.2)).contains x) /\
    cur++Ma.vV sv ((args.take i).map (·.2)) (args.drop i) (d.params.drop i)=bs++Ma.vV sv [] args d.params) ⟨_,_,bs,[],rfl,Kp.new hmt,ex0,S0,upd_same,Nat.le_refl _,fun x=>rfl,rfl⟩ (fun i σ H' _ h=>?_) (fun i x y' tp σ H1 hx hy htp h=>?_) fun σ H1 h=>?_
   ·obtain ⟨_,_,_,_,_,_,ex',_⟩:=h
    exact ⟨SqL.of (ex'.at hhl),SqL.of (ex'.at hpl)⟩
   ·obtain ⟨v4,v5,cur,ks,rfl,kk,ex1,S1,hm1,lk,hk,eq⟩:=h
    obtain ⟨a,ha,ay,rfl,ta⟩:=paired_get phs hx
    obtain ⟨dc,hdc,cx,dcx,cnm,csz,rfl,hcx,_,_⟩:=paired_get pps' hy
    rw [qkR ha hdc] at eq
    have ia:i < args.length:=(List.getElem?_eq_some_iff.mp ha).1
    have leq:=congrArg List.length eq
    simp only [List.length_append] at leq
    have S2:=S1.new (o:=.tup [.ref ay,.ref cx]) htp
    have ex2:Ext H0 (upd H1 tp (.tup [.ref ay,.ref cx])):=ex1.new htp
    have k2:Kp [br] H1 (upd H1 tp (.tup [.ref ay,.ref cx])):=Kp.new htp
    have hm2:=k2.one hm1 nmb
    obtain ⟨dx2,ho2⟩:=S2.obj
    obtain ⟨da,ha0⟩:=id ta
    refine ⟨tp,_,rfl,SqT.of upd_same,rfl,_,_,rfl,_,_,rfl,rfl,?_⟩
    refine me0 rfl ho2 rfl ⟨_,rfl,fl0 rfl (ex2.at hcx) T.yz T.Qh rfl ⟨se,br,pr,sn,cur,sv,ay,_,a.1,a.2,dc.row.isSome,rfl,S2,⟨da,ex2.at ha0⟩,?_,fun H3 k3 S3=>?_⟩⟩
    ·omega
    have ex3:=ex2.kp k3 (fun u hu=>by rw [List.mem_singleton.mp hu]; exact nbr)
    have hm3:=k3.one hm2 nmb
    obtain ⟨dx3,ho3⟩:=S3.obj
    have e5:(valV ks (.inr (Ma.sB a.2))).isSome=((args.take i).map (·.2)).contains a.2:=hk a.2
    have mets:∀ x:Bytes,(valV (putK ks (.inr (Ma.sB a.2)) (.bl true)) (.inr (Ma.sB x))).isSome=((args.take (i+1)).map (·.2)).contains x:=fun x=>by
     rw [valV_put,jK ha,List.map_append,List.contains_append]
     by_cases u:x=a.2
     ·subst u
      rw [if_pos rfl]
      simp
     ·rw [if_neg (fun t=>u (Ma.Xq (by injection t))),hk x]
      simp [u]
    have lks:(putK ks (.inr (Ma.sB a.2):Key) (.bl true)).length<=i+1:=Nat.le_trans (length_putK _ _ _) (Nat.succ_le_succ lk)
    have lsz:ks.length < sizeLine:=Nat.lt_of_le_of_lt (show _<=70000 by omega) (by decide)
    have tks:(args.take (i+1)).map (·.2)=(args.take i).map (·.2)++[a.2]:=by rw [jK ha,List.map_append]; rfl
    refine ⟨_,rfl,ay,_,_,_,_,rfl,ex3.at ha0,T.qy,T.zV,rfl,_,rfl,mt,_,rfl,DGet.k (k:=.inr (Ma.sB a.2)) hm3,_,rfl,?_⟩
    rw [e5]
    cases hc:((args.take i).map (·.2)).contains a.2 with
    | true =>
     rw [hc,if_pos rfl] at eq leq
     refine iteT ⟨_,rfl,se,_,dx3,_,_,rfl,ho3,T.qF,T.jt,rfl,.inl ⟨rfl,_,SqL.of S3.brk⟩,_,rfl,ay,_,_,_,_,rfl,ex3.at ha0,T.qy,T.zO,rfl,br,_,_,rfl,rfl,S3.brk,?_,?_⟩
     ·refine Nat.lt_of_le_of_lt (show _<=400000 from ?_) (by decide)
      rw [List.length_map,List.length_append]
      simp only [List.length_singleton] at leq
      omega
     have S4:=S3.add a.1
     have k4:Kp [br] H3 (upd H3 br (.lst (((cur++if sv.lookup a.2=some dc.row.isSome then [] else [a.1]).map fun (q:Nat)=>V.int (q:Int))++[.int a.1]))):=Kp.at (by simp)
     have ex4:=ex3.kp k4 (fun u hu=>by rw [List.mem_singleton.mp hu]; exact nbr)
     have hm4:=k4.one hm3 nmb
     refine ⟨_,rfl,fl0 rfl (ex4.at ha0) T.qy T.zV rfl ⟨mt,_,rfl,DPut.k (k:=.inr (Ma.sB a.2)) hm4 lsz,_,_,_,_,rfl,?_,?_,S4.kp2 nms nmb nmn,upd_same,lks,mets,?_⟩⟩
     ·intro b o hb nb
      rw [upd_ne (ne_of_none hb hmt)]
      exact k4 b o (k3 b o (k2 b o (kk b o hb nb) nb) nb) nb
     ·exact ex4.kp (Kp.at (L:=[mt]) (by simp)) (fun u hu=>by rw [List.mem_singleton.mp hu]; exact nm0)
     ·rw [tks,<- eq]
      simp only [List.append_assoc]
    | false =>
     rw [hc] at eq
     simp only [Bool.false_eq_true,if_false,List.nil_append] at eq
     refine iteF ⟨_,rfl,fl0 rfl (ex3.at ha0) T.qy T.zV rfl ⟨mt,_,rfl,DPut.k (k:=.inr (Ma.sB a.2)) hm3 lsz,_,_,_,_,rfl,?_,?_,S3.kp2 nms nmb nmn,upd_same,lks,mets,?_⟩⟩
     ·intro b o hb nb
      rw [upd_ne (ne_of_none hb hmt)]
      exact k3 b o (k2 b o (kk b o hb nb) nb) nb
     ·exact ex3.kp (Kp.at (L:=[mt]) (by simp)) (fun u hu=>by rw [List.mem_singleton.mp hu]; exact nm0)
     ·rw [tks,<- eq]
      simp only [List.append_assoc]
   ·obtain ⟨v4,v5,cur,ks,rfl,kk,ex1,S1,hm1,lk,hk,eq⟩:=h
    rw [lh,List.drop_length,List.take_length] at eq
    have e0:Ma.vV sv (args.map (·.2)) [] (d.params.drop args.length)=[]:=by unfold Ma.vV; rfl
    rw [e0,List.append_nil] at eq
    rw [eq] at S1
    exact q H1 kk S1
end
end Pg
namespace Pg
open PySem PySem.Spec PyProof.Rows L2 Xc
open Sc25 (Bytes Toks Bad Got Ex Cell Decl Proc Prog)
open Ma (PT)
structure Sk (A:Adr) (pg:Prog) (H0 H:Hp) (sa br pr sn:Addr) (bs:List Nat) (s:Sc25.Seen):Prop where
 se:Se A H sa br pr sn bs s
 ex:Ext H0 H
 nb:H0 br=none
 ns:H0 sn=none
 np:pr≠sn
 dp:DpR A H0 H pr pg
 nse:H0 sa=none
section
variable {A:Adr} {pg:Prog} {H0 H H':Hp} {se br pr sn:Addr} {bs bs':List Nat} {s s':Sc25.Seen}
theorem Sk.pb (h:Sk A pg H0 H se br pr sn bs s):pr ∉ [br,sn]:=by
 obtain ⟨kvs,hp,_⟩:=h.dp
 intro z
 rcases List.mem_cons.mp z with z | z
 ·rw [z,h.se.brk] at hp; cases hp
 ·exact h.np (List.mem_singleton.mp z)
theorem qno {a b:Addr} {G:Hp} (h1:G a=none) (h2:G b=none):∀ x ∈ [a,b],G x=none:=by
 intro x hx
 rcases List.mem_cons.mp hx with z | z
 ·rw [z]
  exact h1
 ·rw [List.mem_singleton.mp z]
  exact h2
theorem Sk.go (h:Sk A pg H0 H se br pr sn bs s) (k:Kp [br,sn] H H') (S:Se A H' se br pr sn bs' s'):Sk A pg H0 H' se br pr sn bs' s' :=
 ⟨S,h.ex.kp k (qno h.nb h.ns),h.nb,h.ns,h.np,h.dp.kp k h.pb,h.nse⟩
theorem Kp.up {x y:Addr} (k:Kp [x] H H'):Kp [x,y] H H':=Kp.mono k fun _ h=>by rw [List.mem_singleton.mp h]; simp
theorem Sk.new {x:Addr} {o:HO} (h:Sk A pg H0 H se br pr sn bs s) (n:H x=none):Sk A pg H0 (upd H x o) se br pr sn bs s:=h.go (Kp.new n) (h.se.new n)
end
def qkK (A:Adr) (pg:Prog) (d:Nat):Sp:=fun vs H Q _=>∃ H0 se br pr sn bs s v l f,vs=[.ref se,v]/\Sk A pg H0 H se br pr sn bs s/\BkR A (fun _=>True) H0 v l/\Ma.dpB d l/\d<=f/\(Ma.plB f l).length<=70000/\s.length+d<=80000/\bs.length+(Ma.bW pg f s l).length<=400000 /\
 ∀ H',Kp [br,sn] H H'->Se A H' se br pr sn (bs++Ma.bW pg f s l) s->Q .non H'
def foW (pg:Prog) (f:Nat) (s:Sc25.Seen) (c:Ex) (l m:List Sc25.St) (e:Ex):List Nat:=Ma.bads s (Ma.post c)++(Ma.bW pg f s l++(Ma.bW pg f s m++Ma.bads s (Ma.post e)))
def qod (A:Adr) (pg:Prog) (d:Nat):Sp:=fun vs H Q _=>∃ H0 se br pr sn bs s x dx wd op cl c a b e g l m h f,vs=[.ref se,.ref x]/\Sk A pg H0 H se br pr sn bs s/\H0 x=some (.ins A.qx dx [("kind",wd),("opening",op),("before",c),("first",a),("second",b),("closing",cl),("behind",e)]) /\
 LsN A (fun _=>True) H0 c (Ma.post g)/\BkR A (fun _=>True) H0 a l/\BkR A (fun _=>True) H0 b m/\LsN A (fun _=>True) H0 e (Ma.post h)/\Ma.dpB d l/\Ma.dpB d m/\d<=f/\(Ma.plB f l).length<=70000/\(Ma.plB f m).length<=70000/\s.length+d<=80000 /\
 bs.length+(foW pg f s g l m h).length<=400000/\∀ H',Kp [br,sn] H H'->Se A H' se br pr sn (bs++foW pg f s g l m h) s->Q .non H'
def loW (pg:Prog) (f:Nat) (s:Sc25.Seen) (q:Nat) (y:Bytes) (c:Ex) (l:List Sc25.St) (e:Ex):List Nat:=if (s.lookup y).isSome=true then [q] else Ma.bads s (Ma.post c)++(Ma.bads s (Ma.post e)++Ma.bW pg f ((y,false) :: s) l)
def qow (A:Adr) (pg:Prog) (d:Nat):Sp:=fun vs H Q _=>∃ H0 se br pr sn bs s x dx op cz nm c a e q y g l h f,vs=[.ref se,.ref x]/\Sk A pg H0 H se br pr sn bs s/\H0 x=some (.ins A.qJ dx [("opening",op),("name",nm),("before",c),("block",a),("closing",cz),("behind",e)]) /\
 NmR A H0 nm (q,y)/\LsN A (fun _=>True) H0 c (Ma.post g)/\BkR A (fun _=>True) H0 a l/\LsN A (fun _=>True) H0 e (Ma.post h)/\Ma.dpB d l/\d<=f/\(Ma.plB f l).length<=70000/\s.length+(d+1)<=80000 /\
 bs.length+(loW pg f s q y g l h).length<=400000/\∀ H',Kp [br,sn] H H'->Se A H' se br pr sn (bs++loW pg f s q y g l h) s->Q .non H'
section
variable {P:Program} {w:World} {K:PySem.W.Frag} {mg:Str->Option Value} {base:Heap} {A:Adr}
theorem qhr {pg:Prog} {H0 H:Hp} {se br pr sn l:Addr} {bs:List Nat} {s:Sc25.Seen} {ts:List PT} {Q:VK} {E:XK} (S:Sk A pg H0 H se br pr sn bs s) (hl:LsR A H0 l ts) (lb:bs.length+(Ma.bads s ts).length<=400000)
  (q:∀ H',Kp [br,sn] H H'->Sk A pg H0 H' se br pr sn (bs++Ma.bads s ts) s->Q .non H'):qki A [.ref se,.ref l] H Q E :=
 ⟨se,br,pr,sn,bs,s,l,ts,rfl,S.se,S.ex.ls hl,hl.ne S.nb,lb,fun H' k S'=>q H' k.up (S.go k.up S')⟩
theorem argf {K:PySem.W.Frag} {i:Nat} {f:Str} {x C dx:Addr} {fs:List (Str×V)} {u:V} {σ:L2.St} {H:Hp} {F:List V->Hp->Prop} (e:σ[i]?=some (some (.ref x))) (hx:H x=some (.ins C dx fs)) (cl:Cls K C) (na:NoAttr K C f) (l:fs.lookup f=some u) (h:F [u] H):tCons (tFld K (tVar i) f) tNil σ H F :=
 ⟨_,e,x,C,dx,fs,u,rfl,hx,cl,na,l,h⟩
theorem qnt (T:Txt K mg A) (pg:Prog) (d:Nat) (B:Ok P w K mg base CX0 (4+2 * d) A.qM ["self","block"] (qkK A pg d)):Ok P w K mg base CX0 (4+2 * d+1) A.qU ["self","statement"] (qod A pg d):=by
 obtain ⟨fd,F,bi⟩:=T.JS
 obtain ⟨f1,G1,b1⟩:=qgZ (P:=P) (w:=w) (base:=base) T
 obtain ⟨f2,G2,b2⟩:=B
 refine ⟨fd,F.ok qb2 (fun vs H Q E h=>?_) (fun cdv AA outer s H vs Q E hr h=>?_),bi⟩
 ·obtain ⟨H0,se,br,pr,sn,bs,s,x,dx,wd,op,cl,c,a,b,e,g,l,m,h,f,rfl,_⟩:=h
  rfl
 ·obtain ⟨H0,se,br,pr,sn,bs,sv,x,dx,wd,op,cz,c,a,b,e,g,l,m,h,f,rfl,S,hx,⟨cl,rfl,_,hc⟩,ba,bb,⟨el,rfl,_,he⟩,dl,dm,df,pl,pm,ls,lb,q⟩:=h
  have hr2:=hr.mono (show 2<=4+2 * d by omega)
  refine ⟨_,pss_cons (ps_expr (pe_meth (pv 0) T.qF T.jD G1 hr2 b1 .nil pass0 (pa_cons (pe_fld (pv 1) rfl) pa_nil)))
   (pss_cons (ps_expr (pe_meth (pv 0) T.qF T.j4 G2 hr b2 .nil pass0 (pa_cons (pe_fld (pv 1) rfl) pa_nil)))
   (pss_cons (ps_expr (pe_meth (pv 0) T.qF T.j4 G2 hr b2 .nil pass0 (pa_cons (pe_fld (pv 1) rfl) pa_nil)))
   (pss_one (ps_expr (pe_meth (pv 0) T.qF T.jD G1 hr2 b1 .nil pass0 (pa_cons (pe_fld (pv 1) rfl) pa_nil)))))),?_⟩
  unfold foW at lb q
  simp only [List.length_append] at lb
  obtain ⟨d0,ho⟩:=S.se.obj
  refine me0 rfl ho rfl (argf rfl (S.ex.at hx) T.wK T.Yo rfl (qhr S hc (by omega) fun H1 k1 S1=>?_))
  obtain ⟨d1,ho1⟩:=S1.se.obj
  refine me0 rfl ho1 rfl (fl0 rfl (S1.ex.at hx) T.wK T.Kh rfl ⟨H0,se,br,pr,sn,_,sv,a,l,f,rfl,S1,ba,dl,df,pl,ls,?_,fun H2 k2 S2=>?_⟩)
  ·rw [List.length_append]; omega
  have S2:=S1.go k2 S2
  obtain ⟨d2,ho2⟩:=S2.se.obj
  refine me0 rfl ho2 rfl (fl0 rfl (S2.ex.at hx) T.wK T.Y0 rfl ⟨H0,se,br,pr,sn,_,sv,b,m,f,rfl,S2,bb,dm,df,pm,ls,?_,fun H3 k3 S3=>?_⟩)
  ·rw [List.length_append,List.length_append]; omega
  have S3:=S2.go k3 S3
  obtain ⟨d3,ho3⟩:=S3.se.obj
  refine me0 rfl ho3 rfl (argf rfl (S3.ex.at hx) T.wK T.Y4 rfl (qhr S3 he ?_ fun H4 k4 S4=>q H4 (((k1.trans k2).trans k3).trans k4) ?_))
  ·rw [List.length_append,List.length_append,List.length_append]; omega
  ·simp only [<- List.append_assoc]
   exact S4.se
theorem qmW {kvs:List (Key×V)} {k:Key} {v:V} (h:valV kvs k=some v):(dropK kvs k).length < kvs.length:=by
 unfold dropK
 refine List.length_filter_lt_length_iff_exists.mpr ?_
 unfold valV at h
 cases hf:kvs.find? fun kv=>decide (kv.1=k) with
 | none=>rw [hf] at h; cases h
 | some p =>
  have h1:=List.mem_of_find?_eq_some hf
  have h2:=List.find?_some hf
  exact ⟨p,h1,by simpa using h2⟩
theorem qjS {kvs:List (Key×V)} {k j:Key} (h:¬ j=k):valV (dropK kvs k) j=valV kvs j:=by
 induction kvs with
 | nil=>rfl
 | cons p r ih =>
  by_cases e:p.1=k
  ·rw [dropK_pos e,ih,valV_neg (fun z=>h (z.symm.trans e))]
  ·rw [dropK_neg e]
   by_cases z:p.1=j
   ·rw [valV_pos z,valV_pos z]
   ·rw [valV_neg z,valV_neg z,ih]
theorem qjP {kvs:List (Key×V)} {k:Key}:valV (dropK kvs k) k=none:=by
 induction kvs with
 | nil=>rfl
 | cons p r ih =>
  by_cases e:p.1=k
  ·rw [dropK_pos e,ih]
  ·rw [dropK_neg e,valV_neg e,ih]
theorem qoc (T:Txt K mg A) (pg:Prog) (d:Nat) (B:Ok P w K mg base CX0 (4+2 * d) A.qM ["self","block"] (qkK A pg d)):Ok P w K mg base CX0 (4+2 * d+1) A.qZ ["self","statement"] (qow A pg d):=by
 obtain ⟨fd,F,bi⟩:=T.WQ
 obtain ⟨f1,G1,b1⟩:=qgZ (P:=P) (w:=w) (base:=base) T
 obtain ⟨f2,G2,b2⟩:=B
 refine ⟨fd,F.ok qcu (fun vs H Q E h=>?_) (fun cdv AA outer s H vs Q E hr h=>?_),bi⟩
 ·obtain ⟨H0,se,br,pr,sn,bs,s,x,dx,op,cz,nm,c,a,e,q,y,g,l,h,f,rfl,_⟩:=h
  rfl
 ·obtain ⟨H0,se,br,pr,sn,bs,sv,x,dx,op,cz,nm,c,a,e,pl,y,g,l,h,f,rfl,S,hx,⟨ny,rfl,tn⟩,⟨cl,rfl,_,hc⟩,ba,⟨el,rfl,_,he⟩,dl,df,lpl,ls,lb,q⟩:=h
  have hr2:=hr.mono (show 2<=4+2 * d by omega)
  have hu:∀ {k:Nat} {A:Around},Room k A->A.units+1 < cLine:=fun hr=>Nat.lt_of_le_of_lt (Nat.add_le_add_left (show 1<=64 by decide) _) hr.units
  refine ⟨_,pss_cons (ps_if (pt_cmp (pc_din (hu hr) (pe_fld (pe_fld (pv 1) rfl) rfl) (pe_fld (pv 0) rfl)))
    (pss_cons (ps_expr (pe_bm PySem.F.plainAttrs_list PySem.F.slot_list_append PySem.F.type_list_append mt_append (pe_fld (pv 0) rfl) (pa_cons (pe_fld (pe_fld (pv 1) rfl) rfl) pa_nil))) (pss_one ps_retN)) pss_nil)
   (pss_cons (ps_expr (pe_meth (pv 0) T.qF T.jD G1 hr2 b1 .nil pass0 (pa_cons (pe_fld (pv 1) rfl) pa_nil)))
   (pss_cons (ps_expr (pe_meth (pv 0) T.qF T.jD G1 hr2 b1 .nil pass0 (pa_cons (pe_fld (pv 1) rfl) pa_nil)))
   (pss_cons (ps_dput (hu hr) (pe_fld (pv 0) rfl) (pe_fld (pe_fld (pv 1) rfl) rfl) pe_bl rfl)
   (pss_cons (ps_expr (pe_meth (pv 0) T.qF T.j4 G2 hr b2 .nil pass0 (pa_cons (pe_fld (pv 1) rfl) pa_nil)))
   (pss_one (ps_expr (pe_dpop1 (pe_fld (pv 0) rfl) (pe_fld (pe_fld (pv 1) rfl) rfl) ⟨rfl,rfl,rfl,rfl⟩))))))),?_⟩
  obtain ⟨d0,ho⟩:=S.se.obj
  obtain ⟨kvs,hs,hv,lk⟩:=S.se.sen
  obtain ⟨dn,hn⟩:=id tn
  refine ⟨_,rfl,x,_,dx,_,_,rfl,S.ex.at hx,T.wF,T.Qg,rfl,ny,_,_,_,_,rfl,S.ex.at hn,T.qy,T.zV,rfl,_,rfl,se,_,d0,_,_,rfl,ho,T.qF,T.jZ,rfl,sn,_,rfl,DGet.k (k:=.inr (Ma.sB y)) hs,_,rfl,?_⟩
  rw [hv]
  cases hlk:sv.lookup y with
  | some z =>
   have eW:loW pg f sv pl y g l h=[pl]:=by unfold loW; rw [hlk]; rfl
   rw [eW] at q
   refine iteT ⟨_,rfl,se,_,d0,_,_,rfl,ho,T.qF,T.jt,rfl,.inl ⟨rfl,_,SqL.of S.se.brk⟩,_,rfl,x,_,dx,_,_,rfl,S.ex.at hx,T.wF,T.Qg,rfl,ny,_,_,_,_,rfl,S.ex.at hn,T.qy,T.zO,rfl,br,_,_,rfl,rfl,S.se.brk,?_,?_⟩
   ·refine Nat.lt_of_le_of_lt (show _<=400000 from ?_) (by decide)
    rw [List.length_map]
    omega
   ·exact q _ (Kp.at (by simp)) (S.se.add pl)
  | none =>
   have eW:loW pg f sv pl y g l h=Ma.bads sv (Ma.post g)++(Ma.bads sv (Ma.post h)++Ma.bW pg f ((y,false) :: sv) l):=by unfold loW; rw [hlk]; rfl
   rw [eW] at q lb
   simp only [List.length_append] at lb
   refine iteF (me0 rfl ho rfl (argf rfl (S.ex.at hx) T.wF T.Xh rfl (qhr S hc (by omega) fun H1 k1 S1=>?_)))
   obtain ⟨d1,ho1⟩:=S1.se.obj
   refine me0 rfl ho1 rfl (argf rfl (S1.ex.at hx) T.wF T.GK rfl (qhr S1 he ?_ fun H2 k2 S2=>?_))
   ·rw [List.length_append]; omega
   obtain ⟨d2,ho2⟩:=S2.se.obj
   obtain ⟨kvs2,hs2,hv2,lk2⟩:=S2.se.sen
   refine ⟨_,rfl,se,_,d2,_,_,rfl,ho2,T.qF,T.jZ,rfl,_,rfl,x,_,dx,_,_,rfl,S2.ex.at hx,T.wF,T.Qg,rfl,ny,_,_,_,_,rfl,S2.ex.at hn,T.qy,T.zV,rfl,sn,_,rfl,DPut.k (k:=.inr (Ma.sB y)) hs2 (Nat.lt_of_le_of_lt (show _<=80000 by omega) (by decide)),?_⟩
   have k3:Kp [br,sn] H2 (upd H2 sn (.dK (putK kvs2 (.inr (Ma.sB y)) (.bl false)))):=Kp.at (by simp)
   have nes:se≠sn:=ne_of ho2 hs2 fun z=>nomatch z
   have nbs:br≠sn:=ne_of S2.se.brk hs2 fun z=>nomatch z
   have S3:Se A (upd H2 sn (.dK (putK kvs2 (.inr (Ma.sB y)) (.bl false)))) se br pr sn (bs++Ma.bads sv (Ma.post g)++Ma.bads sv (Ma.post h)) ((y,false) :: sv):=by
    refine ⟨⟨d2,by rw [upd_ne nes]; exact ho2⟩,by rw [upd_ne nbs]; exact S2.se.brk,_,upd_same,fun x=>?_,Nat.le_trans (length_putK _ _ _) (Nat.succ_le_succ lk2)⟩
    rw [valV_put]
    by_cases z:x=y
    ·subst z
     rw [if_pos rfl,List.lookup_cons_self]
     rfl
    ·rw [if_neg (fun t=>z (Ma.Xq (by injection t))),hv2,List.lookup_cons]
     rw [show (x == y)=false from beq_eq_false_iff_ne.mpr z]
   have S3:=S2.go k3 S3
   obtain ⟨d3,ho3⟩:=S3.se.obj
   refine me0 rfl ho3 rfl (fl0 rfl (S3.ex.at hx) T.wF T.Ut rfl ⟨H0,se,br,pr,sn,_,_,a,l,f,rfl,S3,ba,dl,df,lpl,?_,?_,fun H4 k4 S4=>?_⟩)
   ·show sv.length+1+d<=80000
    omega
   ·rw [List.length_append,List.length_append]; omega
   have S4:=S3.go k4 S4
   obtain ⟨d4,ho4⟩:=S4.se.obj
   obtain ⟨kvs4,hs4,hv4,lk4⟩:=S4.se.sen
   have hy4:valV kvs4 (.inr (Ma.sB y))=some (.bl false):=by rw [hv4,List.lookup_cons_self]; rfl
   refine ⟨_,rfl,se,_,d4,_,_,rfl,ho4,T.qF,T.jZ,rfl,sn,rfl,.inl ⟨kvs4,.inl hs4⟩,_,rfl,x,_,dx,_,_,rfl,S4.ex.at hx,T.wF,T.Qg,rfl,ny,_,_,_,_,rfl,S4.ex.at hn,T.qy,T.zV,rfl,kvs4,.inr (Ma.sB y),_,hs4,rfl,hy4,q _ ((((k1.trans k2).trans k3).trans k4).trans (Kp.at (by simp))) ?_⟩
   refine ⟨⟨d4,by rw [upd_ne nes]; exact ho4⟩,?_,_,upd_same,fun x=>?_,?_⟩
   ·rw [upd_ne nbs,S4.se.brk]
    simp only [List.append_assoc]
   ·by_cases z:x=y
    ·subst z
     rw [qjP,hlk]
     rfl
    ·rw [qjS (fun t=>z (Ma.Xq (by injection t))),hv4,List.lookup_cons]
     rw [show (x == y)=false from beq_eq_false_iff_ne.mpr z]
   ·have:=qmW hy4
    have:kvs4.length<=sv.length+1:=lk4
    omega
end
end Pg
namespace Pg
open PySem PySem.Spec PyProof.Rows L2 Xc
open Sc25 (Bytes Toks Bad Got Ex Cell Decl Proc Prog)
open Ma (PT)
theorem qct:bootBuiltins "isinstance" = some (.builtin "isinstance"):=by decide +kernel
theorem SsR.paired {A:Adr} {N:Addr->Prop} {H:Hp}:∀ {vs:List V} {xs:List Sc25.St},SsR A N H vs xs->Paired (StR A N H) vs xs
 | _,_,.nil=>.nil
 | _,_,.cons s t=>.cons s t.paired
def stW (pg:Prog) (f:Nat) (s:Sc25.Seen) (x:Sc25.St):List Nat:=Ma.bW pg (f+1) s [x]
theorem qnj (pg:Prog) (f:Nat) (s:Sc25.Seen) (l:List Sc25.St):Ma.bW pg (f+1) s l=l.flatMap (stW pg f s):=by
 have e:∀ x,stW pg f s x=Ma.bW pg (f+1) s [x]:=fun _=>rfl
 induction l with
 | nil=>rw [Ma.bW]; rfl
 | cons x r ih =>
  rw [List.flatMap_cons,<- ih,e,Ma.bW,Ma.bW,Ma.bW]
  simp only [List.flatMap_cons,List.flatMap_nil,List.append_nil]
theorem qmG (f:Nat) (l:List Sc25.St):Ma.plB (f+1) l=l.flatMap (Ma.plS (Ma.plB f)):=by rw [Ma.plB]
theorem qfJ {α β:Type} {g:α->List β} {l:List α} {i:Nat} {x:α} (h:l[i]?=some x):((l.take i).flatMap g).length+(g x).length<=(l.flatMap g).length:=by
 conv=>rhs; rw [qi5 h]
 rw [List.flatMap_append,List.flatMap_cons,List.length_append,List.length_append]
 omega
theorem qor {t:TS} {D':Ends} {σ:L2.St} {H:Hp} (h:∀ D:Ends,(∀ σ H,D'.nx σ H->D.nx σ H)->t D σ H):t D' σ H:=h D' fun _ _ z=>z
section
variable {P:Program} {w:World} {K:PySem.W.Frag} {mg:Str->Option Value} {base:Heap} {A:Adr}
theorem qlf (T:Txt K mg A) (I:Txi K A) (pg:Prog):∀ d:Nat,Ok P w K mg base CX0 (4+2 * d) A.qM ["self","block"] (qkK A pg d)
 | 0=>by
  obtain ⟨fd,F,bi⟩:=T.kI
  refine ⟨fd,F.ok gR (fun vs H Q E h=>?_) (fun cdv AA outer s H vs Q E hr h=>?_),bi⟩
  ·obtain ⟨H0,se,br,pr,sn,bs,s,v,l,f,rfl,_⟩:=h
   rfl
  ·obtain ⟨H0,se,br,pr,sn,bs,s,v,l,f,rfl,S,hb,dl,_⟩:=h
   exact dl.elim
 | d+1=>by
  obtain ⟨fd,F,bi⟩:=T.kI
  have ih:=qlf T I pg d
  obtain ⟨f1,G1,b1⟩:=qko (P:=P) (w:=w) (base:=base) T
  obtain ⟨f2,G2,b2⟩:=qma (P:=P) (w:=w) (base:=base) T pg
  obtain ⟨f3,G3,b3⟩:=qnt (P:=P) (w:=w) (base:=base) T pg d ih
  obtain ⟨f4,G4,b4⟩:=qoc (P:=P) (w:=w) (base:=base) T pg d ih
  refine ⟨fd,F.ok (k:=4+2 * d+1) gR (fun vs H Q E h=>?_) (fun cdv AA outer s H vs Q E hr h=>?_),bi⟩
  ·obtain ⟨H0,se,br,pr,sn,bs,s,v,l,f,rfl,_⟩:=h
   rfl
  ·obtain ⟨H0,se,br,pr,sn,bs,sv,v,l,f,rfl,S,hb,dl,df,lpl,ls,lb,q⟩:=h
   cases hb with
   | @mk bl vs _ _ hbl ss =>
   obtain ⟨f,rfl⟩:∃ e,f=e+1:=⟨f-1,by omega⟩
   have nd:=gR.nd
   have hr3:=hr.mono (show 3<=4+2 * d+1 by omega)
   have hr2:=hr.mono (show 2<=4+2 * d+1 by omega)
   refine ⟨_,pss_one (ps_for PassesOwn.never rfl (pi_list (pv 1)) (pg_name (i:=2) nd rfl (Or.inl rfl))
    (pss_one (ps_if (pt_val (pe_callB VR (by rfl) T.Zc qct (pa_cons (pv 2) (pa_cons (pe_glob (v:=.ref A.qK) (by rfl) T.qgl rfl) pa_nil))))
     (pss_one (ps_expr (pe_meth (pv 0) T.qF T.yD G1 hr3 b1 .nil pass0 (pa_cons (pe_lst (pa_cons (pe_fld (pv 2) rfl) pa_nil)) (pa_cons (pe_fld (pv 2) rfl) pa_nil)))))
    (pss_one (ps_if (pt_val (pe_callB VR (by rfl) T.Zc qct (pa_cons (pv 2) (pa_cons (pe_glob (v:=.ref A.zN) (by rfl) T.qia rfl) pa_nil))))
     (pss_one (ps_expr (pe_meth (pv 0) T.qF T.yD G1 hr3 b1 .nil pass0 (pa_cons (pe_lst (pa_cons (pe_fld (pv 2) rfl) (pa_cons (pe_fld (pv 2) rfl) pa_nil))) (pa_cons (pe_lst pa_nil) pa_nil)))))
    (pss_one (ps_if (pt_val (pe_callB VR (by rfl) T.Zc qct (pa_cons (pv 2) (pa_cons (pe_glob (v:=.ref A.qx) (by rfl) T.qcF rfl) pa_nil))))
     (pss_one (ps_expr (pe_meth (pv 0) T.qF T.Wv G3 hr b3 .nil pass0 (pa_cons (pv 2) pa_nil))))
    (pss_one (ps_if (pt_val (pe_callB VR (by rfl) T.Zc qct (pa_cons (pv 2) (pa_cons (pe_glob (v:=.ref A.zr) (by rfl) T.qic rfl) pa_nil))))
     (pss_one (ps_expr (pe_meth (pv 0) T.qF T.VG G2 hr2 b2 .nil pass0 (pa_cons (pv 2) pa_nil))))
    (pss_one (ps_if (pt_val (pe_callB VR (by rfl) T.Zc qct (pa_cons (pv 2) (pa_cons (pe_glob (v:=.ref A.qJ) (by rfl) T.qg3 rfl) pa_nil))))
     (pss_one (ps_expr (pe_meth (pv 0) T.qF T.WY G4 hr b4 .nil pass0 (pa_cons (pv 2) pa_nil))))
     pss_nil))))))))))),?_⟩
   have ps:=ss.paired
   have lv:=Paired.length ps
   rw [qnj] at lb q
   rw [qmG] at lpl
   refine ⟨_,rfl,bl,rfl,⟨vs,SqL.of (S.ex.at hbl)⟩,for_list (xs:=vs) (fun i σ H'=>∃ v,σ=[some (.ref se),some (.ref bl),v]/\Kp [br,sn] H H'/\Sk A pg H0 H' se br pr sn (bs++(l.take i).flatMap (stW pg f sv)) sv) ⟨_,rfl,Kp.refl _ _,by simpa using S⟩ (fun i σ H' _ h=>?_) (fun i x σ H1 hx h=>?_) fun σ H1 h=>?_⟩
   ·obtain ⟨v,_,k,S1⟩:=h
    exact SqL.of (S1.ex.at hbl)
   ·obtain ⟨v,rfl,k1,S1⟩:=h
    refine qor (t:=tIfS _ _ _) fun D hN=>?_
    obtain ⟨st,hst,sr⟩:=paired_get ps hx
    have pb:=qfJ (g:=stW pg f sv) hst
    have pp:=qfJ (g:=Ma.plS (Ma.plB f)) hst
    have dst:Ma.dpS (Ma.dpB d) st:=dl st (List.mem_of_getElem? hst)
    have es:(l.take (i+1)).flatMap (stW pg f sv)=(l.take i).flatMap (stW pg f sv)++stW pg f sv st:=by
     rw [jK hst,List.flatMap_append,List.flatMap_cons,List.flatMap_nil,List.append_nil]
    obtain ⟨d1,ho1⟩:=S1.se.obj
    have lcur:(bs++(l.take i).flatMap (stW pg f sv)).length+(stW pg f sv st).length<=400000:=by rw [List.length_append]; omega
    rw [es,<- List.append_assoc] at hN
    generalize hcur:bs++(l.take i).flatMap (stW pg f sv)=cur at S1 lcur hN
    cases sr with
    | @set x dx a e c o g hx0 ha he =>
     obtain ⟨al,rfl,_,hal⟩:=ha
     obtain ⟨el,rfl,_,hel⟩:=he
     have eW:stW pg f sv (.set c o g)=chW sv [c] (Ma.post g):=by
      unfold stW chW noOf
      rw [Ma.bW]
      simp
     rw [eW] at lcur hN
     refine isT rfl (S1.ex.at hx0) T.qan I.qlc I.qli ?_
     refine me0 rfl ho1 rfl (fl0 rfl (S1.ex.at hx0) T.qan T.JV rfl ⟨(by show 1<=sizeLine; decide),fun vl hvl=>?_⟩)
     have S2:=S1.new (o:=.lst [.ref al]) hvl
     have nvb:vl≠br:=fun u=>by rw [u,S1.se.brk] at hvl; cases hvl
     refine fl0 rfl (S2.ex.at hx0) T.qan T.ZD rfl ⟨se,br,pr,sn,cur,sv,vl,el,_,[c],Ma.post g,rfl,S2.se,upd_same,nvb,.cons ⟨al,rfl,hal.ne S1.nb,S2.ex.ls hal⟩ .nil,S2.ex.ls hel,hel.ne S1.nb,(by show 1<=2; decide),lcur,fun H3 k3 S3=>hN _ _ ⟨_,rfl,(k1.trans (Kp.new hvl)).trans k3.up,S2.go k3.up S3⟩⟩
    | @swap x dx a b c e hx0 ha hb =>
     obtain ⟨al,rfl,_,hal⟩:=ha
     obtain ⟨el,rfl,_,hel⟩:=hb
     have eW:stW pg f sv (.swap c e)=chW sv [c,e] []:=by
      unfold stW chW noOf
      rw [Ma.bW]
      simp [Ma.bads,Ma.outs]
     rw [eW] at lcur hN
     refine isF rfl (S1.ex.at hx0) T.qbs I.qjZ I.qmO (isT rfl (S1.ex.at hx0) T.qbs I.qjZ I.qmt ?_)
     refine me0 rfl ho1 rfl ⟨_,rfl,x,_,dx,_,_,rfl,S1.ex.at hx0,T.qbs,T.qbX,rfl,_,rfl,x,_,dx,_,_,rfl,S1.ex.at hx0,T.qbs,T.qaF,rfl,(by show 2<=sizeLine; decide),fun vl hvl=>?_⟩
     have S2:=S1.new (o:=.lst [.ref al,.ref el]) hvl
     have nvb:vl≠br:=fun u=>by rw [u,S1.se.brk] at hvl; cases hvl
     refine ⟨Nat.zero_le _,fun wl hwl=>?_⟩
     have S3:=S2.new (o:=.lst []) hwl
     have nwb:wl≠br:=fun u=>by rw [u,S2.se.brk] at hwl; cases hwl
     have nvw:vl≠wl:=fun u=>by rw [<- u,upd_same] at hwl; cases hwl
     refine ⟨se,br,pr,sn,cur,sv,vl,wl,_,[c,e],[],rfl,S3.se,(by rw [upd_ne nvw]; exact upd_same),nvb,.cons ⟨al,rfl,hal.ne S1.nb,S3.ex.ls hal⟩ (.cons ⟨el,rfl,hel.ne S1.nb,S3.ex.ls hel⟩ .nil),⟨[],upd_same,.nil⟩,nwb,(by show 2<=2; decide),lcur,fun H3 k3 S4=>hN _ _ ⟨_,rfl,((k1.trans (Kp.new hvl)).trans (Kp.new hwl)).trans k3.up,S3.go k3.up S4⟩⟩
    | @if_ x dx c a b e p r g h l1 l2 hx0 hc ha hb he =>
     have eW:stW pg f sv (.if_ p g l1 l2 r h)=foW pg f sv g l1 l2 h:=by
      unfold stW foW
      rw [Ma.bW]
      simp
     rw [eW] at lcur hN
     have pp:_+(Ma.plE g++(Ma.plB f l1++(Ma.plB f l2++Ma.plE h))).length<=_:=pp
     simp only [List.length_append] at pp
     refine isF rfl (S1.ex.at hx0) T.wK I.Gh I.qhk (isF rfl (S1.ex.at hx0) T.wK I.Gh I.qho (isT rfl (S1.ex.at hx0) T.wK I.Gh I.qhC ?_))
     exact me0 rfl ho1 rfl ⟨_,rfl,H0,se,br,pr,sn,cur,sv,x,dx,_,_,_,c,a,b,e,g,l1,l2,h,f,rfl,S1,hx0,hc,ha,hb,he,dst.1,dst.2,by omega,by omega,by omega,by omega,lcur,fun H3 k3 S3=>hN _ _ ⟨_,rfl,k1.trans k3,S1.go k3 S3⟩⟩
    | @from_ x dx c a b e p r g h l1 l2 hx0 hc ha hb he =>
     have eW:stW pg f sv (.from_ p g l1 l2 r h)=foW pg f sv g l1 l2 h:=by
      unfold stW foW
      rw [Ma.bW]
      simp
     rw [eW] at lcur hN
     have pp:_+(Ma.plE g++(Ma.plB f l1++(Ma.plB f l2++Ma.plE h))).length<=_:=pp
     simp only [List.length_append] at pp
     refine isF rfl (S1.ex.at hx0) T.wK I.Gh I.qhk (isF rfl (S1.ex.at hx0) T.wK I.Gh I.qho (isT rfl (S1.ex.at hx0) T.wK I.Gh I.qhC ?_))
     exact me0 rfl ho1 rfl ⟨_,rfl,H0,se,br,pr,sn,cur,sv,x,dx,_,_,_,c,a,b,e,g,l1,l2,h,f,rfl,S1,hx0,hc,ha,hb,he,dst.1,dst.2,by omega,by omega,by omega,by omega,lcur,fun H3 k3 S3=>hN _ _ ⟨_,rfl,k1.trans k3,S1.go k3 S3⟩⟩
    | @call x dx fn hs un p y args hx0 hf ha =>
     have eW:stW pg f sv (.call un p y args)=caW pg sv p y args:=by
      unfold stW
      rw [Ma.bW,List.flatMap_cons,List.flatMap_nil,List.append_nil]
      rfl
     rw [eW] at lcur hN
     have pp:_+(p :: args.map (·.1)).length<=_:=pp
     simp only [List.length_cons,List.length_map] at pp
     refine isF rfl (S1.ex.at hx0) T.Zk I.qgs I.qmJ (isF rfl (S1.ex.at hx0) T.Zk I.qgs I.qmd (isF rfl (S1.ex.at hx0) T.Zk I.qgs I.ql4 (isT rfl (S1.ex.at hx0) T.Zk I.qgs I.qmb ?_)))
     exact me0 rfl ho1 rfl ⟨_,rfl,H0,se,br,pr,sn,cur,sv,x,dx,_,fn,hs,p,y,args,rfl,S1.se,S1.ex,S1.nb,S1.dp,hx0,hf,ha,by omega,lcur,fun H3 k3 S3=>hN _ _ ⟨_,rfl,k1.trans k3.up,S1.go k3.up S3⟩⟩
    | @local_ x dx nm c a e p r u y g h l1 hx0 hn hc ha he =>
     have eW:stW pg f sv (.local_ p r y g l1 u h)=loW pg f sv r y g l1 h:=by
      unfold stW loW
      rw [Ma.bW]
      simp
     rw [eW] at lcur hN
     have pp:_+(r :: (Ma.plE g++(Ma.plB f l1++Ma.plE h))).length<=_:=pp
     simp only [List.length_append,List.length_cons] at pp
     refine isF rfl (S1.ex.at hx0) T.wF I.qby I.ql1 (isF rfl (S1.ex.at hx0) T.wF I.qby I.qk3 (isF rfl (S1.ex.at hx0) T.wF I.qby I.qls (isF rfl (S1.ex.at hx0) T.wF I.qby I.qlD (isT rfl (S1.ex.at hx0) T.wF I.qby I.qlt ?_))))
     exact me0 rfl ho1 rfl ⟨_,rfl,H0,se,br,pr,sn,cur,sv,x,dx,_,_,nm,c,a,e,r,y,g,l1,h,f,rfl,S1,hx0,hn,hc,ha,he,dst,by omega,by omega,by omega,lcur,fun H3 k3 S3=>hN _ _ ⟨_,rfl,k1.trans k3,S1.go k3 S3⟩⟩
    | @skip x dx hx0 =>
     have eW:stW pg f sv .skip=[]:=by
      unfold stW
      rw [Ma.bW]
      simp
     rw [eW,List.append_nil] at hN
     exact isF rfl (S1.ex.at hx0) T.qbt I.qd9 I.ql7 (isF rfl (S1.ex.at hx0) T.qbt I.qd9 I.qmD (isF rfl (S1.ex.at hx0) T.qbt I.qd9 I.ql6 (isF rfl (S1.ex.at hx0) T.qbt I.qd9 I.qmX (isF rfl (S1.ex.at hx0) T.qbt I.qd9 I.qmj (hN _ _ ⟨_,rfl,k1,S1⟩)))))
   ·obtain ⟨v,rfl,k1,S1⟩:=h
    rw [lv,List.take_length] at S1
    exact q H1 k1 S1.se
end
end Pg
namespace Pg
open PySem PySem.Spec PyProof.Rows L2 Xc
open Sc25 (Bytes Toks Bad Got Ex Cell Decl Proc Prog)
open Ma (PT)
def qeg (ds:List Decl):List (Nat×Bytes):=ds.map fun y=>(y.p,y.x)
def wiW (pg:Prog) (ds:List Decl) (l:List Sc25.St):List Nat:=Ma.tw [] (qeg ds)++Ma.bW pg 33 (Sc25.seen ds) l
def qn9 (A:Adr) (pg:Prog):Sp:=fun vs H Q _=>∃ H0 se br pr sn bs s dv bv ds l,∃ Z:Decl->V->Prop,vs=[.ref se,dv,bv]/\Sk A pg H0 H se br pr sn bs s/\LnR (DcR A Z) (fun _=>True) H0 dv ds/\BkR A (fun _=>True) H0 bv l/\Ma.dpB 32 l/\(Ma.plB 33 l).length<=70000/\ds.length<=70000 /\
 bs.length+(wiW pg ds l).length<=400000/\∀ H' sn' s',Sk A pg H0 H' se br pr sn' (bs++wiW pg ds l) s'->Q .non H'
theorem qkm {met:List Bytes} {l:List (Nat×Bytes)} {i:Nat} {a:Nat×Bytes} (h:l[i]?=some a):Ma.tw met (l.drop i)=(if met.contains a.2=true then [a.1] else [])++Ma.tw (met++[a.2]) (l.drop (i+1)):=by
 have h1:i < l.length:=(List.getElem?_eq_some_iff.mp h).1
 have e1:l[i]=a:=(List.getElem?_eq_some_iff.mp h).2
 rw [List.drop_eq_getElem_cons h1,e1]
 rfl
theorem qiK (l:List Decl) (d:Decl) (x:Bytes):(Sc25.seen (l++[d])).lookup x=((Sc25.seen l).lookup x).or (if x=d.x then some d.row.isSome else none):=by
 unfold Sc25.seen
 rw [List.map_append,List.lookup_append]
 congr 1
 show List.lookup x [(d.x,d.row.isSome)]=_
 rw [List.lookup_cons]
 by_cases h:x=d.x
 ·rw [if_pos h,show (x == d.x)=true from beq_iff_eq.mpr h]
 ·rw [if_neg h,show (x == d.x)=false from beq_eq_false_iff_ne.mpr h]
  rfl
theorem qh0 (l:List Decl) (x:Bytes):((Sc25.seen l).lookup x).isSome=(l.map (·.x)).contains x:=by
 induction l with
 | nil=>rfl
 | cons d l ih =>
  show (List.lookup x ((d.x,d.row.isSome) :: Sc25.seen l)).isSome=_
  rw [List.lookup_cons,List.map_cons,List.contains_cons,<- ih]
  cases (x == d.x) <;> rfl
section
variable {P:Program} {w:World} {K:PySem.W.Frag} {mg:Str->Option Value} {base:Heap} {A:Adr}
theorem qlZ (T:Txt K mg A) (I:Txi K A) (pg:Prog):Ok P w K mg base CX0 69 A.zz ["self","declared","block"] (qn9 A pg):=by
 obtain ⟨fd,F,bi⟩:=T.Gj
 obtain ⟨f1,G1,b1⟩:=qlf (P:=P) (w:=w) (base:=base) T I pg 32
 refine ⟨fd,F.ok Gi (fun vs H Q E h=>?_) (fun cdv AA outer s H vs Q E hr h=>?_),bi⟩
 ·obtain ⟨H0,se,br,pr,sn,bs,s,dv,bv,ds,l,Z,rfl,_⟩:=h
  rfl
 ·obtain ⟨H0,se,br,pr,sn,bs,sv,dv,bv,ds,l,Z,rfl,S,⟨dl,dvs,rfl,_,hdl,pds⟩,hb,db,lpl,ld,lb,q⟩:=h
  have nd:=Gi.nd
  have hu:∀ {k:Nat} {A:Around},Room k A->A.units+1 < cLine:=fun hr=>Nat.lt_of_le_of_lt (Nat.add_le_add_left (show 1<=64 by decide) _) hr.units
  refine ⟨_,pss_cons (ps_fld (pv 0) pe_dnewK rfl)
   (pss_cons (ps_for PassesOwn.never rfl (pi_list (pv 1)) (pg_name (i:=3) nd rfl (Or.inl rfl))
    (pss_one (ps_if (pt_cmp (pc_din (hu hr) (pe_fld (pe_fld (pv 3) rfl) rfl) (pe_fld (pv 0) rfl)))
     (pss_one (ps_expr (pe_bm PySem.F.plainAttrs_list PySem.F.slot_list_append PySem.F.type_list_append mt_append (pe_fld (pv 0) rfl) (pa_cons (pe_fld (pe_fld (pv 3) rfl) rfl) pa_nil))))
     (pss_one (ps_dput (hu hr) (pe_fld (pv 0) rfl) (pe_fld (pe_fld (pv 3) rfl) rfl) (pe_fld (pv 3) rfl) rfl)))))
   (pss_one (ps_expr (pe_meth (pv 0) T.qF T.j4 G1 hr b1 .nil pass0 (pa_cons (pv 2) pa_nil))))),?_⟩
  obtain ⟨d0,ho⟩:=S.se.obj
  refine fun sn' hsn=>?_
  have nss:se≠sn':=ne_of_none ho hsn
  have nbs:br≠sn':=ne_of_none S.se.brk hsn
  have nsb:br≠se:=ne_of S.se.brk ho fun z=>nomatch z
  have ns0:H0 sn'=none:=S.ex.free hsn
  refine ⟨_,rfl,se,_,d0,_,rfl,(by rw [upd_ne nss]; exact ho),T.qF,T.jZ,(by show 3 < 1000; decide),?_⟩
  have hse1:(upd (upd H sn' (.dK [])) se (.ins A.qt d0 [("broken",.ref br),("procedures",.ref pr),("seen",.ref sn')])) se=some (.ins A.qt d0 [("broken",.ref br),("procedures",.ref pr),("seen",.ref sn')]):=upd_same
  have S0:Sk A pg H0 (upd (upd H sn' (.dK [])) se (.ins A.qt d0 [("broken",.ref br),("procedures",.ref pr),("seen",.ref sn')])) se br pr sn' bs []:=by
   obtain ⟨kp,hp,hp'⟩:=S.dp
   have nps:pr≠se:=ne_of hp ho fun z=>nomatch z
   have npn:pr≠sn':=ne_of_none hp hsn
   refine ⟨⟨⟨d0,hse1⟩,by rw [upd_ne nsb,upd_ne nbs]; exact S.se.brk,[],by rw [upd_ne nss.symm]; exact upd_same,fun x=>rfl,Nat.le_refl _⟩,?_,S.nb,ns0,npn,⟨kp,by rw [upd_ne nps,upd_ne npn]; exact hp,hp'⟩,S.nse⟩
   exact (S.ex.new hsn).kp (Kp.at (L:=[se]) (by simp)) fun u hu=>by rw [List.mem_singleton.mp hu]; exact S.nse
  generalize hH1:upd (upd H sn' (.dK [])) se (.ins A.qt d0 [("broken",.ref br),("procedures",.ref pr),("seen",.ref sn')])=H1 at S0 hse1
  have hH1':upd (upd H sn' (.dK [])) se (.ins A.qt d0 (putF "seen" (.ref sn') [("broken",.ref br),("procedures",.ref pr),("seen",.ref sn)]))=H1:=hH1
  rw [hH1']
  unfold wiW at lb q
  have lds:=Paired.length pds
  refine ⟨_,rfl,dl,rfl,⟨dvs,SqL.of (S0.ex.at hdl)⟩,for_list (xs:=dvs) (fun i σ H'=>∃ v cur,σ=[some (.ref se),some (.ref dl),some bv,v]/\Sk A pg H0 H' se br pr sn' cur (Sc25.seen (ds.take i)) /\
   cur++Ma.tw ((ds.take i).map (·.x)) ((qeg ds).drop i)=bs++Ma.tw [] (qeg ds)) ⟨_,bs,rfl,S0,rfl⟩ (fun i σ H' _ h=>?_) (fun i x σ H2 hx h=>?_) fun σ H2 h=>?_⟩
  ·obtain ⟨v,cur,_,S1,_⟩:=h
   exact SqL.of (S1.ex.at hdl)
  ·obtain ⟨v,cur,rfl,S1,eq⟩:=h
   obtain ⟨d,hd,x',dx,nm,sz,rfl,hx0,⟨ny,rfl,dn,hn⟩,_⟩:=paired_get pds hx
   have hd':(qeg ds)[i]?=some (d.p,d.x):=by unfold qeg; rw [List.getElem?_map,hd]; rfl
   rw [qkm hd'] at eq
   have leq:=congrArg List.length eq
   simp only [List.length_append] at leq lb
   obtain ⟨d1,ho1⟩:=S1.se.obj
   obtain ⟨kvs,hs,hv,lk⟩:=S1.se.sen
   have ls:(Sc25.seen (ds.take i)).length<=70000:=by unfold Sc25.seen; rw [List.length_map,List.length_take]; omega
   have tks:(ds.take (i+1)).map (·.x)=(ds.take i).map (·.x)++[d.x]:=by rw [jK hd,List.map_append]; rfl
   refine ⟨_,rfl,x',_,_,_,_,rfl,S1.ex.at hx0,T.yz,T.yF,rfl,ny,_,_,_,_,rfl,S1.ex.at hn,T.qy,T.zV,rfl,_,rfl,se,_,d1,_,_,rfl,ho1,T.qF,T.jZ,rfl,sn',_,rfl,DGet.k (k:=.inr (Ma.sB d.x)) hs,_,rfl,?_⟩
   have e5:(valV kvs (.inr (Ma.sB d.x))).isSome=((ds.take i).map (·.x)).contains d.x:=by
    rw [hv,<- qh0]
    cases (Sc25.seen (ds.take i)).lookup d.x <;> rfl
   rw [e5]
   have lk2:∀ {n:Nat},n<=kvs.length+1->n<=(Sc25.seen (ds.take (i+1))).length:=fun {n} h=>by
    have:(Sc25.seen (ds.take (i+1))).length=(Sc25.seen (ds.take i)).length+1:=by unfold Sc25.seen; rw [jK hd,List.map_append,List.length_append]; rfl
    omega
   cases hc:((ds.take i).map (·.x)).contains d.x with
   | true =>
    rw [hc,if_pos rfl] at eq leq
    simp only [List.length_singleton] at leq
    refine iteT ⟨_,rfl,se,_,d1,_,_,rfl,ho1,T.qF,T.jt,rfl,.inl ⟨rfl,_,SqL.of S1.se.brk⟩,_,rfl,x',_,_,_,_,rfl,S1.ex.at hx0,T.yz,T.yF,rfl,ny,_,_,_,_,rfl,S1.ex.at hn,T.qy,T.zO,rfl,br,_,_,rfl,rfl,S1.se.brk,?_,?_⟩
    ·refine Nat.lt_of_le_of_lt (show _<=400000 from ?_) (by decide)
     rw [List.length_map]
     omega
    refine ⟨_,cur++[d.p],rfl,S1.go (Kp.at (by simp)) ?_,?_⟩
    ·have S2:=S1.se.add d.p
     obtain ⟨kvs',hs',hv',lk'⟩:=S2.sen
     refine ⟨S2.obj,S2.brk,kvs',hs',fun x=>?_,Nat.le_trans lk' ?_⟩
     ·rw [hv',jK hd,qiK]
      by_cases z:x=d.x
      ·subst z
       have:((Sc25.seen (ds.take i)).lookup d.x).isSome=true:=by rw [qh0]; exact hc
       cases hz:(Sc25.seen (ds.take i)).lookup d.x with
       | none=>rw [hz] at this; cases this
       | some b=>rfl
      ·rw [if_neg z,Option.or_none]
     ·unfold Sc25.seen
      rw [List.length_map,List.length_map,List.length_take,List.length_take]
      omega
    ·rw [tks,<- eq]
     simp only [List.append_assoc]
   | false =>
    rw [hc] at eq
    simp only [Bool.false_eq_true,if_false,List.nil_append] at eq
    refine iteF (fl0 rfl (S1.ex.at hx0) T.yz T.Qh rfl (fl0 rfl ho1 T.qF T.jZ rfl (fl1 rfl (S1.ex.at hx0) T.yz T.yF rfl (S1.ex.at hn) T.qy T.zV rfl ⟨sn',_,rfl,DPut.k (k:=.inr (Ma.sB d.x)) hs (Nat.lt_of_le_of_lt (show _<=70000 by omega) (by decide)),?_⟩)))
    refine ⟨_,cur,rfl,S1.go (Kp.at (by simp)) ?_,?_⟩
    ·refine ⟨⟨d1,by rw [upd_ne (ne_of ho1 hs fun z=>nomatch z)]; exact ho1⟩,by rw [upd_ne (ne_of S1.se.brk hs fun z=>nomatch z)]; exact S1.se.brk,_,upd_same,fun x=>?_,lk2 (length_putK _ _ _)⟩
     rw [valV_put,jK hd,qiK]
     by_cases z:x=d.x
     ·subst z
      have:((Sc25.seen (ds.take i)).lookup d.x).isSome=false:=by rw [qh0]; exact hc
      rw [if_pos rfl,if_pos rfl]
      cases hz:(Sc25.seen (ds.take i)).lookup d.x with
      | none=>rfl
      | some b=>rw [hz] at this; cases this
     ·rw [if_neg (fun t=>z (Ma.Xq (by injection t))),if_neg z,Option.or_none,hv]
    ·rw [tks,<- eq]
  ·obtain ⟨v,cur,rfl,S1,eq⟩:=h
   rw [lds,List.take_length] at S1
   rw [lds,List.take_length] at eq
   have e0:(qeg ds).drop ds.length=[]:=by
    refine List.drop_eq_nil_of_le ?_
    unfold qeg
    rw [List.length_map]
    exact Nat.le_refl _
   rw [e0] at eq
   have e1:Ma.tw (ds.map (·.x)) []=[]:=rfl
   rw [e1,List.append_nil] at eq
   subst eq
   obtain ⟨d1,ho1⟩:=S1.se.obj
   refine me0 rfl ho1 rfl ⟨_,rfl,H0,se,br,pr,sn',_,_,bv,l,33,rfl,S1,hb,db,by decide,lpl,?_,?_,fun H3 k3 S3=>q H3 sn' (Sc25.seen ds) ?_⟩
   ·unfold Sc25.seen
    rw [List.length_map]
    omega
   ·simp only [List.length_append] at lb ⊢
    omega
   ·rw [<- List.append_assoc]
    exact S1.go k3 S3
end
end Pg
namespace Pg
open PySem PySem.Spec PyProof.Rows L2 Xc
open Sc25 (Bytes Toks Bad Got Ex Cell Decl Proc Prog)
open Ma (PT)
def qbj (ps:List Proc):List (Nat×Bytes):=ps.map fun d=>(d.p,d.name)
def qbl (pg:Prog) (i:Nat):Prog:={ pg with procs:=pg.procs.take i }
def qoI (A:Adr) (pg:Prog):Sp:=fun vs H Q _=>∃ H0 se dx pl ps,vs=[.ref se,.ref pl]/\H se=some (.ins A.qt dx [])/\Ext H0 H/\H0 se=none/\H0 pl=some (.lst ps)/\Paired (PrR A (fun _=>True) H0) ps pg.procs/\pg.procs.length<=70000 /\
 ∀ H' br pr sn,Sk A pg H0 H' se br pr sn (Ma.tw [] (qbj pg.procs)) []->Q .non H'
theorem qig (pg:Prog) {i:Nat} {d:Proc} (h:pg.procs[i]?=some d) (x:Bytes):(qbl pg (i+1)).proc x=((qbl pg i).proc x).or (if x=d.name then some d else none):=by
 unfold Prog.proc qbl
 show (pg.procs.take (i+1)).find? _=((pg.procs.take i).find? _).or _
 rw [jK h,List.find?_append]
 congr 1
 by_cases z:x=d.name
 ·rw [if_pos z,List.find?_cons,show (d.name == x)=true from beq_iff_eq.mpr z.symm]
 ·rw [if_neg z,List.find?_cons,show (d.name == x)=false from beq_eq_false_iff_ne.mpr (fun t=>z t.symm)]
  rfl
theorem qh7 (pg:Prog) (i:Nat) (x:Bytes):((qbl pg i).proc x).isSome=((pg.procs.take i).map (·.name)).contains x:=by
 unfold Prog.proc qbl
 show ((pg.procs.take i).find? _).isSome=_
 generalize pg.procs.take i=l
 induction l with
 | nil=>rfl
 | cons d l ih =>
  rw [List.find?_cons,List.map_cons,List.contains_cons,<- ih]
  by_cases z:x=d.name
  ·rw [show (d.name == x)=true from beq_iff_eq.mpr z.symm,show (x == d.name)=true from beq_iff_eq.mpr z]
   rfl
  ·rw [show (d.name == x)=false from beq_eq_false_iff_ne.mpr (fun t=>z t.symm),show (x == d.name)=false from beq_eq_false_iff_ne.mpr z]
   rfl
section
variable {P:Program} {w:World} {K:PySem.W.Frag} {mg:Str->Option Value} {base:Heap} {A:Adr}
theorem qhR (T:Txt K mg A) (pg:Prog):Ok P w K mg base CX0 1 A.jz ["self","procedures"] (qoI A pg):=by
 obtain ⟨fd,F,bi⟩:=T.qd1
 refine ⟨fd,F.ok qdQ (fun vs H Q E h=>?_) (fun cdv AA outer s H vs Q E hr h=>?_),bi⟩
 ·obtain ⟨H0,se,dx,pl,ps,rfl,_⟩:=h
  rfl
 ·obtain ⟨H0,se,dx,pl,ps,rfl,hse,ex,nse,hpl,pps,lp,q⟩:=h
  have nd:=qdQ.nd
  have hu:∀ {k:Nat} {A:Around},Room k A->A.units+1 < cLine:=fun hr=>Nat.lt_of_le_of_lt (Nat.add_le_add_left (show 1<=64 by decide) _) hr.units
  refine ⟨_,pss_cons (ps_fld (pv 0) (pe_lst pa_nil) rfl) (pss_cons (ps_fld (pv 0) pe_dnewK rfl) (pss_cons (ps_fld (pv 0) pe_dnewK rfl)
   (pss_one (ps_for PassesOwn.never rfl (pi_list (pv 1)) (pg_name (i:=2) nd rfl (Or.inl rfl))
    (pss_one (ps_if (pt_cmp (pc_din (hu hr) (pe_fld (pe_fld (pv 2) rfl) rfl) (pe_fld (pv 0) rfl)))
     (pss_one (ps_expr (pe_bm PySem.F.plainAttrs_list PySem.F.slot_list_append PySem.F.type_list_append mt_append (pe_fld (pv 0) rfl) (pa_cons (pe_fld (pe_fld (pv 2) rfl) rfl) pa_nil))))
     (pss_one (ps_dput (hu hr) (pe_fld (pv 0) rfl) (pe_fld (pe_fld (pv 2) rfl) rfl) (pv 2) rfl)))))))),?_⟩
  refine ⟨Nat.zero_le _,fun br hbr=>⟨_,rfl,se,_,dx,_,rfl,(by rw [upd_ne (ne_of_none hse hbr)]; exact hse),T.qF,T.jt,(by show 0 < 1000; decide),fun pr hpr=>?_⟩⟩
  have nbs:br≠se:=(ne_of_none hse hbr).symm
  have npb:br≠pr:=fun z=>by rw [<- z,upd_ne nbs,upd_same] at hpr; cases hpr
  have nps:se≠pr:=fun z=>by rw [<- z,upd_same] at hpr; cases hpr
  refine ⟨_,rfl,se,_,dx,_,rfl,(by rw [upd_ne nps]; exact upd_same),T.qF,T.wB,(by show 1 < 1000; decide),fun sn hsn=>?_⟩
  have nns:se≠sn:=fun z=>by rw [<- z,upd_same] at hsn; cases hsn
  have nnp:pr≠sn:=fun z=>by rw [<- z,upd_ne nps.symm,upd_same] at hsn; cases hsn
  have nnb:br≠sn:=fun z=>by rw [<- z,upd_ne nbs,upd_ne npb,upd_ne nbs,upd_same] at hsn; cases hsn
  refine ⟨_,rfl,se,_,dx,_,rfl,(by rw [upd_ne nns]; exact upd_same),T.qF,T.jZ,(by show 2 < 1000; decide),?_⟩
  have fb:H0 br=none:=ex.free hbr
  have e1:Ext H0 (upd H br (.lst [])):=ex.new hbr
  have atse:∀ {G:Hp} {o:HO},Ext H0 G->Ext H0 (upd G se o):=fun e=>e.kp (Kp.at (L:=[se]) (by simp)) fun u hu=>by rw [List.mem_singleton.mp hu]; exact nse
  have fp:H0 pr=none:=(atse (o:=.ins A.qt dx [("broken",.ref br)]) e1).free hpr
  have e2:=(atse (o:=.ins A.qt dx [("broken",.ref br)]) e1).new (o:=.dK []) hpr
  have fn:H0 sn=none:=(atse (o:=.ins A.qt dx [("broken",.ref br),("procedures",.ref pr)]) e2).free hsn
  have e3:=atse (o:=.ins A.qt dx [("broken",.ref br),("procedures",.ref pr),("seen",.ref sn)]) ((atse (o:=.ins A.qt dx [("broken",.ref br),("procedures",.ref pr)]) e2).new (o:=.dK []) hsn)
  have lps:=Paired.length pps
  have start:∃ H1,H1=upd (upd (upd (upd (upd (upd H br (.lst [])) se (.ins A.qt dx [("broken",.ref br)])) pr (.dK [])) se (.ins A.qt dx [("broken",.ref br),("procedures",.ref pr)])) sn (.dK [])) se (.ins A.qt dx [("broken",.ref br),("procedures",.ref pr),("seen",.ref sn)]):=⟨_,rfl⟩
  obtain ⟨H1,hH1⟩:=start
  rw [<- hH1] at e3
  have a1:H1 se=some (.ins A.qt dx [("broken",.ref br),("procedures",.ref pr),("seen",.ref sn)]):=by rw [hH1]; exact upd_same
  have a2:H1 br=some (.lst []):=by rw [hH1,upd_ne nbs,upd_ne nnb,upd_ne nbs,upd_ne npb,upd_ne nbs]; exact upd_same
  have a3:H1 pr=some (.dK []):=by rw [hH1,upd_ne nps.symm,upd_ne nnp,upd_ne nps.symm]; exact upd_same
  have a4:H1 sn=some (.dK []):=by rw [hH1,upd_ne nns.symm]; exact upd_same
  have hG:upd (upd (upd (upd (upd (upd H br (.lst [])) se (.ins A.qt dx (putF "broken" (.ref br) []))) pr (.dK [])) se (.ins A.qt dx (putF "procedures" (.ref pr) (putF "broken" (.ref br) [])))) sn (.dK [])) se (.ins A.qt dx (putF "seen" (.ref sn) (putF "procedures" (.ref pr) (putF "broken" (.ref br) []))))=H1:=hH1.symm
  rw [hG]
  refine ⟨_,rfl,pl,rfl,⟨ps,SqL.of (e3.at hpl)⟩,for_list (xs:=ps) (fun i σ H'=>∃ v cur kvs,σ=[some (.ref se),some (.ref pl),v]/\Ext H0 H'/\H' se=some (.ins A.qt dx [("broken",.ref br),("procedures",.ref pr),("seen",.ref sn)])/\H' br=some (.lst (cur.map fun (q:Nat)=>V.int (q:Int)))/\H' sn=some (.dK []) /\
   H' pr=some (.dK kvs)/\kvs.length<=i/\cur.length<=i/\(∀ x:Bytes,((qbl pg i).proc x=none/\valV kvs (.inr (Ma.sB x))=none)\/∃ d v,(qbl pg i).proc x=some d/\valV kvs (.inr (Ma.sB x))=some v/\PrR A (fun _=>True) H0 v d) /\
   cur++Ma.tw ((pg.procs.take i).map (·.name)) ((qbj pg.procs).drop i)=Ma.tw [] (qbj pg.procs)) ⟨_,[],[],rfl,e3,a1,a2,a4,a3,Nat.le_refl _,Nat.le_refl _,fun x=>.inl ⟨rfl,rfl⟩,rfl⟩ (fun i σ H' _ h=>?_) (fun i x σ H2 hx h=>?_) fun σ H2 h=>?_⟩
  ·obtain ⟨v,cur,kvs,_,e,_⟩:=h
   exact SqL.of (e.at hpl)
  ·obtain ⟨v,cur,kvs,rfl,e,c1,c2,c4,c3,lk,lc,hk,eq⟩:=h
   obtain ⟨d,hd,prx⟩:=paired_get pps hx
   obtain ⟨x',dx',nm,ps',bl',rfl,hx0,⟨ny,rfl,dn,hn⟩,_,_⟩:=id prx
   have ip:i < pg.procs.length:=(List.getElem?_eq_some_iff.mp hd).1
   have hd':(qbj pg.procs)[i]?=some (d.p,d.name):=by unfold qbj; rw [List.getElem?_map,hd]; rfl
   rw [qkm hd'] at eq
   have tks:(pg.procs.take (i+1)).map (·.name)=(pg.procs.take i).map (·.name)++[d.name]:=by rw [jK hd,List.map_append]; rfl
   refine ⟨_,rfl,x',_,dx',_,_,rfl,e.at hx0,T.j9,T.vN,rfl,ny,_,_,_,_,rfl,e.at hn,T.qy,T.zV,rfl,_,rfl,se,_,dx,_,_,rfl,c1,T.qF,T.wB,rfl,pr,_,rfl,DGet.k (k:=.inr (Ma.sB d.name)) c3,_,rfl,?_⟩
   have e5:(valV kvs (.inr (Ma.sB d.name))).isSome=((pg.procs.take i).map (·.name)).contains d.name:=by
    rw [<- qh7]
    rcases hk d.name with ⟨u1,u2⟩ | ⟨d',v',u1,u2,_⟩
    ·rw [u1,u2]; rfl
    ·rw [u1,u2]; rfl
   rw [e5]
   cases hc:((pg.procs.take i).map (·.name)).contains d.name with
   | true =>
    rw [hc,if_pos rfl] at eq
    refine iteT ⟨_,rfl,se,_,dx,_,_,rfl,c1,T.qF,T.jt,rfl,.inl ⟨rfl,_,SqL.of c2⟩,_,rfl,x',_,dx',_,_,rfl,e.at hx0,T.j9,T.vN,rfl,ny,_,_,_,_,rfl,e.at hn,T.qy,T.zO,rfl,br,_,_,rfl,rfl,c2,?_,?_⟩
    ·refine Nat.lt_of_le_of_lt (show _<=70000 from ?_) (by decide)
     rw [List.length_map]
     omega
    refine ⟨_,cur++[d.p],kvs,rfl,?_,by rw [upd_ne nbs.symm]; exact c1,by rw [upd_same,List.map_append]; rfl,by rw [upd_ne nnb.symm]; exact c4,by rw [upd_ne npb.symm]; exact c3,by omega,by rw [List.length_append]; simp only [List.length_singleton]; omega,fun x=>?_,?_⟩
    ·exact e.kp (Kp.at (L:=[br]) (by simp)) fun u hu=>by rw [List.mem_singleton.mp hu]; exact fb
    ·rw [qig pg hd]
     rcases hk x with ⟨u1,u2⟩ | ⟨d',v',u1,u2,u3⟩
     ·have z:¬ x=d.name:=fun z=>by
       have:=qh7 pg i x
       rw [u1,z,hc] at this
       cases this
      rw [if_neg z,u1]
      exact .inl ⟨rfl,u2⟩
     ·rw [u1]
      exact .inr ⟨d',v',rfl,u2,u3⟩
    ·rw [tks,<- eq]
     simp only [List.append_assoc]
   | false =>
    rw [hc] at eq
    simp only [Bool.false_eq_true,if_false,List.nil_append] at eq
    refine iteF ⟨_,rfl,fl0 rfl c1 T.qF T.wB rfl (fl1 rfl (e.at hx0) T.j9 T.vN rfl (e.at hn) T.qy T.zV rfl ⟨pr,_,rfl,DPut.k (k:=.inr (Ma.sB d.name)) c3 (Nat.lt_of_le_of_lt (show _<=70000 by omega) (by decide)),?_⟩)⟩
    refine ⟨_,cur,_,rfl,?_,by rw [upd_ne nps]; exact c1,by rw [upd_ne npb]; exact c2,by rw [upd_ne nnp.symm]; exact c4,upd_same,Nat.le_trans (length_putK _ _ _) (Nat.succ_le_succ lk),by omega,fun x=>?_,?_⟩
    ·exact e.kp (Kp.at (L:=[pr]) (by simp)) fun u hu=>by rw [List.mem_singleton.mp hu]; exact fp
    ·rw [qig pg hd,valV_put]
     by_cases z:x=d.name
     ·subst z
      rw [if_pos rfl,if_pos rfl]
      rcases hk d.name with ⟨u1,u2⟩ | ⟨d',v',u1,u2,u3⟩
      ·rw [u1]
       exact .inr ⟨d,.ref x',rfl,rfl,prx⟩
      ·have:=qh7 pg i d.name
       rw [u1,hc] at this
       cases this
     ·rw [if_neg z,if_neg (fun t=>z (Ma.Xq (by injection t))),Option.or_none]
      exact hk x
    ·rw [tks,<- eq]
  ·obtain ⟨v,cur,kvs,rfl,e,c1,c2,c4,c3,lk,lc,hk,eq⟩:=h
   have e0:(qbj pg.procs).drop ps.length=[]:=by
    refine List.drop_eq_nil_of_le ?_
    unfold qbj
    rw [List.length_map,lps]
    exact Nat.le_refl _
   rw [e0,Ma.tw,List.append_nil] at eq
   subst eq
   have ew:qbl pg ps.length=pg:=by unfold qbl; rw [lps,List.take_length]
   rw [ew] at hk
   exact q H2 br pr sn ⟨⟨⟨dx,c1⟩,c2,[],c4,fun x=>rfl,Nat.le_refl _⟩,e,fb,fn,nnp,⟨kvs,c3,hk⟩,nse⟩
def qmT (A:Adr) (pg:Prog):Sp:=fun vs H Q _=>∃ v,vs=[v]/\PgR A H v pg/\Ma.Few pg/\∀ H' l,Ext H H'->H' l=some (.lst ((Ma.broken pg).map fun (q:Nat)=>V.int (q:Int)))->Q (.ref l) H'
theorem qlL (T:Txt K mg A) (I:Txi K A) (pg:Prog):Ok P w K mg base CX0 70 A.jq ["program"] (qmT A pg):=by
 obtain ⟨fd,F,bi⟩:=T.YG
 obtain ⟨f1,G1,b1⟩:=qhR (P:=P) (w:=w) (base:=base) T pg
 obtain ⟨f2,G2,b2⟩:=qlZ (P:=P) (w:=w) (base:=base) T I pg
 refine ⟨fd,F.ok qb9 (fun vs H Q E h=>?_) (fun cdv AA outer s H vs Q E hr h=>?_),bi⟩
 ·obtain ⟨v,rfl,_⟩:=h
  rfl
 ·obtain ⟨v,rfl,⟨x,dx,gl,pr,mn,pl,ps,rfl,hx,hgl,⟨rfl,hpl,pps⟩,hmn⟩,fw,q⟩:=h
  have nd:=qb9.nd
  have hr2:=hr.mono (show 1+1<=69 by decide)
  refine ⟨_,pss_cons (ps_set (i:=1) nd rfl (Or.inl rfl) (pe_make T.qip G1 hr2 rfl T.qiD b1 .nil pass0 (pa_cons (pe_fld (pv 0) rfl) pa_nil)))
   (pss_cons (ps_expr (pe_meth (pv 1) T.qF T.Zq G2 hr b2 .nil pass0 (pa_cons (pe_fld (pv 0) rfl) (pa_cons (pe_fld (pv 0) rfl) pa_nil))))
   (pss_cons (ps_for PassesOwn.never rfl (pi_list (pe_fld (pv 0) rfl)) (pg_name (i:=2) nd rfl (Or.inl rfl))
    (pss_one (ps_expr (pe_meth (pv 1) T.qF T.Zq G2 hr b2 .nil pass0 (pa_cons (pe_fld (pv 2) rfl) (pa_cons (pe_fld (pv 2) rfl) pa_nil))))))
   (pss_one (ps_ret (pe_fld (pv 1) rfl))))),?_⟩
  have lps:=Paired.length pps
  have bb:Ma.broken pg=Ma.tw [] (qbj pg.procs)++(wiW pg pg.globals pg.main++pg.procs.flatMap fun d=>wiW pg d.params d.body):=rfl
  have lb:=fw.br
  rw [bb] at lb q
  simp only [List.length_append] at lb
  refine fl0 rfl hx T.wU T.jT rfl (fun se ds nz ndz nez=>⟨H,se,ds,pl,ps,rfl,upd_same,(Kp.trans (Kp.new ndz) (Kp.new (by rw [upd_ne (fun u=>nez u.symm)]; exact nz))),nz,hpl,pps,fw.pr,fun H1 br pr sn S1=>⟨rfl,?_⟩⟩)
  obtain ⟨d1,ho1⟩:=S1.se.obj
  refine me0 rfl ho1 rfl (fl0 rfl (S1.ex.at hx) T.wU T.j5 rfl (fl0 rfl (S1.ex.at hx) T.wU T.Xu rfl ⟨H,se,br,pr,sn,_,_,gl,mn,pg.globals,pg.main,zG,rfl,S1,hgl,hmn,fw.dm,fw.mn,fw.gl,by omega,fun H2 sn2 s2 S2=>?_⟩))
  refine ⟨_,rfl,x,_,dx,_,_,rfl,S2.ex.at hx,T.wU,T.jT,rfl,pl,rfl,⟨ps,SqL.of (S2.ex.at hpl)⟩,for_list (xs:=ps) (fun i σ H'=>∃ v sn' s',σ=[some (.ref x),some (.ref se),v]/\Sk A pg H H' se br pr sn' (Ma.tw [] (qbj pg.procs)++wiW pg pg.globals pg.main++(pg.procs.take i).flatMap fun d=>wiW pg d.params d.body) s') ⟨_,sn2,s2,rfl,by simpa using S2⟩ (fun i σ H' _ h=>?_) (fun i y σ H3 hy h=>?_) fun σ H3 h=>?_⟩
  ·obtain ⟨v,sn',s',_,S3⟩:=h
   exact SqL.of (S3.ex.at hpl)
  ·obtain ⟨v,sn',s',rfl,S3⟩:=h
   obtain ⟨d,hd,x',dx',nm,ps',bl',rfl,hx0,_,hps,hbl⟩:=paired_get pps hy
   have pb:=qfJ (g:=fun d:Proc=>wiW pg d.params d.body) hd
   obtain ⟨d3,ho3⟩:=S3.se.obj
   have md:d ∈ pg.procs:=List.mem_of_getElem? hd
   refine me0 rfl ho3 rfl (fl0 rfl (S3.ex.at hx0) T.j9 T.jO rfl (fl0 rfl (S3.ex.at hx0) T.j9 T.JT rfl ⟨H,se,br,pr,sn',_,_,ps',bl',d.params,d.body,zP,rfl,S3,hps,hbl,fw.dp d md,(fw.pp d md).2,(fw.pp d md).1,?_,fun H4 sn4 s4 S4=>⟨_,sn4,s4,rfl,?_⟩⟩))
   ·simp only [List.length_append]
    omega
   ·rw [jK hd,List.flatMap_append,List.flatMap_cons,List.flatMap_nil,List.append_nil,<- List.append_assoc]
    exact S4
  ·obtain ⟨v,sn',s',rfl,S3⟩:=h
   rw [lps,List.take_length] at S3
   obtain ⟨d3,ho3⟩:=S3.se.obj
   exact fl0 rfl ho3 T.qF T.jt rfl (q H3 br S3.ex (by rw [<- List.append_assoc]; exact S3.se.brk))
end
end Pg
namespace Pg
open PySem PySem.Spec PyProof.Rows L2 Xc
open Sc25 (Bytes Toks Bad Got Ex Cell Decl Proc Prog)
open Ma (PT)
theorem qlS:bootBuiltins "sum" = some (.builtin "sum"):=by decide +kernel
theorem qk6:bootBuiltins "any" = some (.builtin "any"):=by decide +kernel
theorem qla:bootBuiltins "min" = some (.builtin "min"):=by decide +kernel
theorem qcO:FnScope ["program","one"] ["program"] (defScope qaO):=⟨rfl,rfl,rfl,by decide +kernel,rfl,by decide +kernel,by decide +kernel⟩
theorem qb3:FnScope ["program","procedure"] ["program"] (defScope X6):=⟨rfl,rfl,rfl,by decide +kernel,rfl,by decide +kernel,by decide +kernel⟩
def qns (A:Adr):Sp:=fun vs H Q _=>∃ v pg,vs=[v]/\PgR A H v pg/\pg.globals.length<=70000/\∀ H',Ext H H'->Q (.int (pg.words:Nat)) H'
def qnC (A:Adr):Sp:=fun vs H Q _=>∃ v pg,vs=[v]/\PgR A H v pg/\Ma.Few pg/\∀ H',Ext H H'->Q (.bl (!(Sc25.small pg))) H'
theorem PgR.ext {A:Adr} {H H':Hp} {v:V} {pg:Prog} (h:PgR A H v pg) (e:Ext H H'):PgR A H' v pg:=by
 obtain ⟨x,dx,gl,pr,mn,pl,ps,rfl,hx,hgl,⟨rfl,hpl,pps⟩,hmn⟩:=h
 exact ⟨x,dx,gl,_,mn,pl,ps,rfl,e.at hx,hgl.keep e.jC fun _ _ z=>z.keep (N:=fun _=>True) e.jC,⟨rfl,e.at hpl,Paired.mapP pps fun _ _ z=>z.keep e.jC fun _ q=>q⟩,hmn.keep e.jC fun _ q=>q⟩
section
variable {P:Program} {w:World} {K:PySem.W.Frag} {mg:Str->Option Value} {base:Heap} {A:Adr}
theorem qjA (T:Txt K mg A):Ok P w K mg base CX0 1 A.jE ["program"] (qns A):=by
 obtain ⟨fd,F,bi⟩:=T.WP
 refine ⟨fd,F.ok qcO (fun vs H Q E h=>?_) (fun cdv AA outer s H vs Q E hr h=>?_),bi⟩
 ·obtain ⟨v,pg,rfl,_⟩:=h
  rfl
 ·obtain ⟨v,pg,rfl,⟨x,dx,gl,pr,mn,pl,ps,rfl,hx,⟨l,gs,rfl,_,hl,pgs⟩,_,_⟩,lg,q⟩:=h
  have nd:=qcO.nd
  refine ⟨_,pss_one (ps_ret (pe_callB (cr_sum rfl) (by rfl) T.qm6 qlS (pa_cons (pe_lc (own:=[("one",1)]) (te:=tFld K (tVar 1) "size") rfl nd (pi_list (pe_fld (pv 0) rfl)) (blkOk_by (by rfl)) (fun _ _ _ _ _=>pg_name (i:=1) nd rfl (Or.inl rfl) (.inr rfl)) (fun _ _ _ _ _=>pts_nil) (fun _ _ _ _ _=>pe_fld (pv 1) rfl)) pa_nil))),?_⟩
  have lgs:=Paired.length pgs
  refine ⟨_,rfl,x,_,dx,_,_,rfl,hx,T.wU,T.j5,rfl,l,rfl,⟨gs,SqL.of hl⟩,fun D hD=>lc_list (xs:=gs) (fun i H'=>H'=upd H D (.lst ((pg.globals.take i).map fun d=>V.int (d.size:Nat)))) rfl (fun i H' _ h=>?_) (fun i y H' hy h=>?_) fun H' h=>?_⟩
  ·subst h
   exact SqL.of (by rw [upd_ne (ne_of_none hl hD)]; exact hl)
  ·subst h
   obtain ⟨d,hd,x',dx',nm,sz,rfl,h1,_,h3⟩:=paired_get pgs hy
   have h3:sz=.int (d.size:Nat):=h3
   subst h3
   refine ⟨rfl,?_⟩
   refine yesT (fl0 rfl (by rw [upd_ne (ne_of_none h1 hD)]; exact h1) T.yz T.YJ rfl ⟨_,upd_same,?_,?_⟩)
   ·refine Nat.lt_of_le_of_lt (show _<=70000 from ?_) (by decide)
    rw [List.length_map,List.length_take]
    omega
   ·rw [upd_upd,jK hd,List.map_append]
    rfl
  subst h
  rw [lgs,List.take_length]
  refine ⟨D,pg.globals.map fun d=>((d.size:Nat):Int),rfl,SqL.of (by rw [upd_same,List.map_map]; rfl),?_⟩
  have e:(pg.globals.map fun d=>((d.size:Nat):Int)).sum=((pg.words:Nat):Int):=by
   unfold Prog.words
   generalize pg.globals=ds
   induction ds with
   | nil=>rfl
   | cons d ds ih=>rw [List.map_cons,List.map_cons,List.sum_cons,List.sum_cons,ih,Int.natCast_add]
  rw [e]
  exact q _ (Kp.new hD)
theorem qmU (T:Txt K mg A):Ok P w K mg base CX0 2 A.ju ["program"] (qnC A):=by
 obtain ⟨fd,F,bi⟩:=T.Kf
 obtain ⟨f1,G1,b1⟩:=qjA (P:=P) (w:=w) (base:=base) T
 obtain ⟨_,F1',_⟩:=T.WP
 obtain ⟨t1,h1⟩:=T.qfK
 obtain ⟨t2,h2⟩:=T.qdV
 obtain ⟨t3,h3⟩:=T.qbg
 obtain ⟨t4,h4⟩:=T.qa7
 refine ⟨fd,F.ok qb3 (fun vs H Q E h=>?_) (fun cdv AA outer s H vs Q E hr h=>?_),bi⟩
 ·obtain ⟨v,pg,rfl,_⟩:=h
  rfl
 ·obtain ⟨v,pg,rfl,hpg,fw,q⟩:=h
  have nd:=qb3.nd
  refine ⟨_,pss_one (ps_ret (pe_or (pe_cmpR op_gt (pe_call G1 hr rfl T.Um F1'.kp b1 .nil pass0 (pa_cons (pv 0) pa_nil)) (pe_glob (by rfl) h1 (relI _ _)) (nomark _))
   (pe_or (pe_cmpR op_gt (pe_callB call_len_seq (by rfl) T.Ke PySem.boot_len (pa_cons (pe_fld (pv 0) rfl) pa_nil)) (pe_glob (by rfl) h2 (relI _ _)) (nomark _))
   (pe_or (pe_cmpR op_gt (pe_callB call_len_seq (by rfl) T.Ke PySem.boot_len (pa_cons (pe_fld (pv 0) rfl) pa_nil)) (pe_glob (by rfl) h3 (relI _ _)) (nomark _))
   (pe_one (pe_callB (cr_any rfl) (by rfl) T.qm7 qk6 (pa_cons (pe_lc (own:=[("procedure",1)]) (te:=tOp (rI0 fun i j=>V.bl (decide (j < i))) (tCB (fun xs H Q=>∃ p ys,xs=[.ref p]/\(SqL K H p ys\/SqT K H p ys)/\Q (.int ys.length) H) (tCons (tFld K (tVar 1) "parameters") tNil)) (tC (.int 16))) rfl nd (pi_list (pe_fld (pv 0) rfl)) (blkOk_by (by rfl)) (fun _ _ _ _ _=>pg_name (i:=1) nd rfl (Or.inl rfl) (.inr rfl)) (fun _ _ _ _ _=>pts_nil)
    (fun _ _ _ _ _=>pe_cmpR op_gt (pe_callB call_len_seq (by rfl) T.Ke PySem.boot_len (pa_cons (pe_fld (pv 1) rfl) pa_nil)) (pe_glob (by rfl) h4 (relI _ _)) (nomark _))) pa_nil))))))),?_⟩
  obtain ⟨x,dx,gl,pr,mn,pl,ps,rfl,hx,⟨l,gs,rfl,_,hl,pgs⟩,⟨rfl,hpl,pps⟩,_⟩:=id hpg
  have lgs:=Paired.length pgs
  have lps:=Paired.length pps
  refine ⟨_,rfl,_,pg,rfl,hpg,fw.gl,fun H1 e1=>⟨_,_,rfl,rfl,_,rfl,ite2 (fun z=>?_) fun z=>?_⟩⟩
  ·have z:¬ pg.words<=4096:=fun y=>by have:=of_decide_eq_true z; omega
   have e:Sc25.small pg=false:=by unfold Sc25.small; rw [decide_eq_false z]; rfl
   rw [e] at q
   exact q _ e1
  have z1:pg.words<=4096:=by
   apply Classical.byContradiction
   intro y
   exact z (decide_eq_true (by omega))
  refine fl0 rfl (e1.at hx) T.wU T.j5 rfl ⟨l,_,rfl,.inl (SqL.of (e1.at hl)),_,_,rfl,rfl,_,rfl,?_⟩
  rw [lgs]
  refine ite2 (fun z=>?_) fun z=>?_
  ·have z:¬ pg.globals.length<=256:=fun y=>by have:=of_decide_eq_true z; omega
   have e:Sc25.small pg=false:=by unfold Sc25.small; rw [decide_eq_true z1,decide_eq_false z]; rfl
   rw [e] at q
   exact q _ e1
  have z2:pg.globals.length<=256:=by
   apply Classical.byContradiction
   intro y
   exact z (decide_eq_true (by omega))
  refine fl0 rfl (e1.at hx) T.wU T.jT rfl ⟨pl,_,rfl,.inl (SqL.of (e1.at hpl)),_,_,rfl,rfl,_,rfl,?_⟩
  rw [lps]
  refine ite2 (fun z=>?_) fun z=>?_
  ·have z:¬ pg.procs.length<=256:=fun y=>by have:=of_decide_eq_true z; omega
   have e:Sc25.small pg=false:=by unfold Sc25.small; rw [decide_eq_true z1,decide_eq_true z2,decide_eq_false z]; rfl
   rw [e] at q
   exact q _ e1
  have z3:pg.procs.length<=256:=by
   apply Classical.byContradiction
   intro y
   exact z (decide_eq_true (by omega))
  refine ⟨_,rfl,x,_,dx,_,_,rfl,e1.at hx,T.wU,T.jT,rfl,pl,rfl,⟨ps,SqL.of (e1.at hpl)⟩,fun D hD=>lc_list (xs:=ps) (fun i H'=>H'=upd H1 D (.lst ((pg.procs.take i).map fun d=>V.bl (decide (d.params.length > 16))))) rfl (fun i H' _ h=>?_) (fun i y H' hy h=>?_) fun H' h=>?_⟩
  ·subst h
   exact SqL.of (by rw [upd_ne (ne_of_none (e1.at hpl) hD)]; exact e1.at hpl)
  ·subst h
   obtain ⟨d,hd,x',dx',nm,ps',bl',rfl,g1,_,⟨pl',pvs,rfl,_,g2,pp⟩,_⟩:=paired_get pps hy
   have lpp:=Paired.length pp
   refine ⟨rfl,?_⟩
   refine yesT (fl0 rfl (by rw [upd_ne (ne_of_none (e1.at g1) hD)]; exact e1.at g1) T.j9 T.jO rfl ⟨pl',_,rfl,.inl (SqL.of (by rw [upd_ne (ne_of_none (e1.at g2) hD)]; exact e1.at g2)),_,_,rfl,rfl,_,upd_same,?_,?_⟩)
   ·refine Nat.lt_of_le_of_lt (show _<=70000 from ?_) (by decide)
    rw [List.length_map,List.length_take]
    omega
   ·rw [upd_upd,jK hd,List.map_append,lpp]
    have:decide ((16:Int) < ((d.params.length:Nat):Int))=decide (d.params.length > 16):=by
     by_cases u:d.params.length > 16
     ·rw [decide_eq_true u,decide_eq_true (by omega)]
     ·rw [decide_eq_false u,decide_eq_false (by omega)]
    show upd H1 D (.lst (_++[V.bl (decide ((16:Int) < ((d.params.length:Nat):Int)))]))=_
    rw [this]
    rfl
  subst h
  rw [lps,List.take_length]
  refine ⟨D,pg.procs.map fun d=>decide (d.params.length > 16),rfl,SqL.of (by rw [upd_same,List.map_map]; rfl),?_⟩
  have e:(pg.procs.map fun d=>decide (d.params.length > 16)).any id=!(Sc25.small pg):=by
   unfold Sc25.small
   rw [decide_eq_true z1,decide_eq_true z2,decide_eq_true z3]
   simp only [Bool.true_and]
   generalize pg.procs=ds
   induction ds with
   | nil=>rfl
   | cons d ds ih =>
    rw [List.map_cons,List.any_cons,List.all_cons,ih,Bool.not_and]
    congr 1
    by_cases u:d.params.length<=16
    ·rw [decide_eq_true u,decide_eq_false (by omega)]; rfl
    ·rw [decide_eq_false u,decide_eq_true (by omega)]; rfl
  rw [e]
  exact q _ (e1.new hD)
end
end Pg
namespace Pg
open PySem PySem.Spec PyProof.Rows L2 Xc
open Sc25 (Bytes Toks Bad Got Ex Cell Decl Proc Prog)
open Ma (PT)
def qmp (K:PySem.W.Frag) (A:Adr):Sp:=fun vs H Q E=>∃ a b,vs=[.ref a]/\Qk K H a b/\(∀ c ∈ b,c<=255)/\b.length<=66000/\(65536 < b.length->∀ H',E (.int (-2) 0) none H') /\
 (b.length<=65536->match Sc25.taken b with
  | .bad v=>∀ H',E (.int v 0) none H'
  | .good pg=>∀ H' v,PgR A H' v pg->pg.globals.length<=70000->Q v H')
theorem qmh {K:PySem.W.Frag} {i:Nat}:∀ (σ:L2.St) (H:Hp) (a b:VK),(∀ v H1,a v H1->b v H1)->tCB (rMin K) (tCons (tVar i) tNil) σ H a->tCB (rMin K) (tCons (tVar i) tNil) σ H b:=by
 rintro σ H a b hab ⟨v,h1,l,ns,h2,h3,h4,h5⟩
 exact ⟨v,h1,l,ns,h2,h3,h4,fun m hm hl=>hab _ _ (h5 m hm hl)⟩
theorem rz0 {C:Addr} {m:Int} {D:Ends} {σ:L2.St} {H:Hp} {E:XK} (h:∀ H',E (.int m 0) none H'):qfU C (qhm C m) tNil E D σ H:=by
 refine ⟨Nat.zero_le _,fun e tp he ht hne=>⟨e,tp,rfl,upd_same,fun d hd=>?_⟩⟩
 have n1:d≠e:=fun z=>by rw [z,upd_same] at hd; cases hd
 rw [upd_ne n1] at hd
 have n2:d≠tp:=fun z=>by rw [z,upd_same] at hd; cases hd
 rw [upd_ne n2] at hd
 exact ⟨rfl,d,m,hd,n1,n2,upd_same,by rw [upd_ne n1,upd_same],h⟩
section
variable {P:Program} {w:World} {K:PySem.W.Frag} {mg:Str->Option Value} {base:Heap} {A:Adr}
theorem qkG (T:Txt K mg A) (I:Txi K A) (B:Tbl P w K A):Ok P w K mg base (CXr P w K A.qi) 141 A.wk ["text"] (qmp K A):=by
 obtain ⟨fd,F,bi⟩:=T.qeo
 obtain ⟨f1,G1,b1⟩:=qfQ (P:=P) (w:=w) (base:=base) T
 obtain ⟨f2,G2,b2⟩:=qh2 (P:=P) (w:=w) (base:=base) T B
 obtain ⟨f3,G3,b3⟩:=qkJ (P:=P) (w:=w) (base:=base) T B
 obtain ⟨f5,G5,b5⟩:=qfW (P:=P) (w:=w) (base:=base) T
 obtain ⟨f6,G6,b6⟩:=qmU (P:=P) (w:=w) (base:=base) T
 obtain ⟨f7,G7,b7⟩:=QZ (P:=P) (w:=w) (base:=base) T
 obtain ⟨t1,h1⟩:=T.qgc
 obtain ⟨_,F4',_⟩:=T.YG
 obtain ⟨_,F6',_⟩:=T.Kf
 refine ⟨fd,F.okR qhE (fun vs H Q E h=>?_) (fun cdv AA outer s H vs Q E hr h=>?_),bi⟩
 ·obtain ⟨a,b,rfl,_⟩:=h
  rfl
 ·obtain ⟨a,b,rfl,tx,low,lb,q1,q2⟩:=h
  have nd:=qhE.nd
  obtain ⟨pg,hpg⟩:∃ pg:Prog,∀ x,Ma.vY (Ma.strm b 0)=.ok x->x.1=pg:=by
   cases hq:Ma.vY (Ma.strm b 0) with
   | error z=>exact ⟨⟨[],[],[]⟩,fun x h=>(nomatch h)⟩
   | ok x=>exact ⟨x.1,fun y h=>by injection h with h; rw [h]⟩
  obtain ⟨f4,G4,b4⟩:=qlL (P:=P) (w:=w) (base:=base) T I pg
  have hr3:=hr.mono (show 2+1<=140 by decide)
  have hr7:=hr.mono (show 6+1<=140 by decide)
  have hr70:=hr.mono (show 70<=140 by decide)
  have hr2:=hr.mono (show 2<=140 by decide)
  refine ⟨_,pss_cons (ps_if (pt_cmpR op_gt (pe_callB call_len_seq (by rfl) T.Ke PySem.boot_len (pa_cons (pv 0) pa_nil)) (pe_glob (by rfl) h1 (relI _ _)) (nomark _)) (pss_one (qaA T.qfn T.qfl G1 hr3 b1 rfl T.qfe)) pss_nil)
   (pss_cons (ps_set (i:=1) nd rfl (Or.inl rfl) (pe_meth0 (pe_make T.qir G2 hr7 rfl T.qij b2 .nil qw (pa_cons (pv 0) pa_nil)) T.qe T.VL G3 hr b3 .nil qw))
   (pss_cons (ps_set (i:=2) nd rfl (Or.inl rfl) (pe_call G4 hr70 rfl T.qbz F4'.kp b4 .nil pass0 (pa_cons (pv 1) pa_nil)))
   (pss_cons (ps_if (pt_cmpR op_gt (pe_callB call_len_seq (by rfl) T.Ke PySem.boot_len (pa_cons (pv 2) pa_nil)) pe_int (nomark _)) (pss_one (qiG T.qfo T.qfm G5 hr3 b5 rfl T.qfg (pe_callB (cr_min rfl) (by rfl) T.qkp qla (pa_cons (pv 2) pa_nil)) qmh)) pss_nil)
   (pss_cons (ps_if (pt_val (pe_call G6 hr2 rfl T.qcv F6'.kp b6 .nil pass0 (pa_cons (pv 1) pa_nil))) (pss_one (qaA T.Wa T.Wr G7 hr3 b7 rfl T.J4)) pss_nil)
   (pss_one (ps_ret (pv 1))))))),?_⟩
  refine ⟨_,rfl,a,_,rfl,.inl tx,_,_,rfl,rfl,_,rfl,?_⟩
  rw [List.length_map]
  refine ite2 (fun z=>?_) fun z=>?_
  ·exact rz0 (q1 (by have:=of_decide_eq_true z; omega))
  have z:b.length<=65536:=by
   apply Classical.byContradiction
   intro y
   exact z (decide_eq_true (by omega))
  have q2:=q2 z
  rw [Ma.qlC] at q2
  have sl:=Ma.qmV b
  refine ⟨_,rfl,fun p dp nz ndz nez=>?_⟩
  have tx0:Qk K (upd (upd H dp (.own p)) p (.ins A.qg dp [])) a b:=tx.kp (L:=[]) ((Kp.new ndz).trans (Kp.new (by rw [upd_ne (fun u=>nez u.symm)]; exact nz))) fun y hy=>by cases hy
  refine ⟨p,dp,a,b,rfl,upd_same,tx0,low,by omega,fun hl=>?_,fun hl H1 sc k1 S1=>⟨rfl,?_⟩⟩
  ·rw [Ma.qkH hl] at q2
   exact q2
  refine S1.obE fun dp1 tk1 hp1=>?_
  refine ⟨p,dp1,_,rfl,hp1,rfl,p,sc,a,b,Ma.strm b 0,rfl,S1,fun k r hs=>Ma.qlI hs,?_⟩
  cases hq:Ma.vY (Ma.strm b 0) with
  | error z =>
   rw [hq] at q2
   cases z with
   | wrong k=>exact q2
   | full=>exact q2
  | ok x =>
   obtain ⟨P',t'⟩:=x
   have ep:P'=pg:=hpg _ hq
   subst ep
   have fw:=Ma.qmY hq (by omega)
   have fw:Ma.Few P':=fw
   rw [hq] at q2
   have hle:=Ma.qlM hq
   have hle:Ma.qG t'=false:=hle
   show (if Ma.qG t'=true then _ else _)
   rw [hle]
   refine iteF fun H2 v k2 pr2=>?_
   refine ⟨_,rfl,_,rfl,pr2,fw,fun H3 bl e3 hbl=>?_⟩
   refine ⟨_,rfl,bl,_,rfl,.inl (SqL.of hbl),_,_,rfl,rfl,_,rfl,?_⟩
   rw [List.length_map]
   refine ite2 (fun z=>?_) fun z=>?_
   ·have z:0 < (Ma.broken P').length:=by have:=of_decide_eq_true z; omega
    refine ⟨_,rfl,bl,(Ma.broken P').map fun (q:Nat)=>(q:Int),rfl,SqL.of (by rw [hbl,List.map_map]; rfl),by rw [List.length_map]; exact z,fun m hm hmin=>?_⟩
    obtain ⟨k,hk,rfl⟩:=List.mem_map.mp hm
    have hl:=Ma.qmk hk fun y hy=>by
     have:=hmin (y:Int) (List.mem_map.mpr ⟨y,hy,rfl⟩)
     omega
    unfold Ma.dueG at q2
    dsimp only at q2
    rw [hl] at q2
    exact rz1 q2
   have z:Ma.broken P'=[]:=by
    cases hb:Ma.broken P' with
    | nil=>rfl
    | cons y r =>
     rw [hb] at z
     exact absurd (decide_eq_true (by rw [List.length_cons]; omega)) z
   unfold Ma.dueG at q2
   dsimp only at q2
   rw [z,Ma.qk9] at q2
   dsimp only at q2
   refine ⟨_,rfl,_,_,rfl,pr2.ext e3,fw,fun H4 e4=>⟨_,rfl,?_⟩⟩
   cases hs:Sc25.small P' with
   | false =>
    rw [hs] at q2
    exact iteT (rz0 q2)
   | true =>
    rw [hs] at q2
    exact iteF ⟨_,rfl,q2 H4 v ((pr2.ext e3).ext e4) fw.gl⟩
end
end Pg
namespace Pg
open PySem PySem.Spec PyProof.Rows L2 Xc
open Sc25 (Bytes Toks Bad Got Ex Cell Decl Proc Prog)
def dueN (b:Bytes):Int:=if 65536 < b.length then -2 else match Sc25.taken b with
 | .bad v=>v
 | .good pg=>((pg.words:Nat):Int)
def qh8 (K:PySem.W.Frag):Sp:=fun vs H Q _=>∃ a b,vs=[.ref a]/\Qk K H a b/\(∀ c ∈ b,c<=255)/\b.length<=66000/\∀ H' l,H' l=some (.lst [.int (dueN b)])->Q (.ref l) H'
section
variable {P:Program} {w:World} {K:PySem.W.Frag} {mg:Str->Option Value} {base:Heap} {A:Adr}
theorem qgP (T:Txt K mg A) (I:Txi K A) (B:Tbl P w K A) {fd:FuncData} (F:Fun K "check" "check" qgt A.wO fd):FnOk P w K mg base CX0 142 A.wO fd ["text"] (qh8 K):=by
 obtain ⟨f1,G1,b1⟩:=qkG (P:=P) (w:=w) (base:=base) T I B
 obtain ⟨f2,G2,b2⟩:=qjA (P:=P) (w:=w) (base:=base) T
 obtain ⟨_,F1',_⟩:=T.qeo
 obtain ⟨_,F2',_⟩:=T.WP
 refine F.ok qjh (fun vs H Q E h=>?_) (fun cdv AA outer s H vs Q E hr h=>?_)
 ·obtain ⟨a,b,rfl,_⟩:=h
  rfl
 ·obtain ⟨a,b,rfl,tx,low,lb,q⟩:=h
  have nd:=qjh.nd
  have hr1:=hr.mono (show 1<=141 by decide)
  refine ⟨_,pss_cons (qn5 (i:=2) (R:=A.qi) ⟨rfl,rfl,rfl,fun x=>rfl⟩ nd rfl rfl rfl T.WD rfl rfl rfl rfl rfl
    (fun xe pn E' hx=>pss_one (ps_set (i:=1) nd rfl (Or.inl rfl) (pe_call G1 hr rfl T.qhB F1'.kp b1 .nil hx (pa_cons (pv 0) pa_nil)))))
   (pss_one (ps_ret (pe_lst (pa_cons (pe_call G2 hr1 rfl T.Um F2'.kp b2 .nil pass0 (pa_cons (pv 1) pa_nil)) pa_nil)))),?_⟩
  unfold dueN at q
  refine ⟨_,rfl,a,b,rfl,tx,low,lb,fun hl H'=>?_,fun hl=>?_⟩
  ·rw [if_pos hl] at q
   exact ⟨-2,rfl,fun l hl=>q _ l upd_same⟩
  ·rw [if_neg (by omega)] at q
   cases ht:Sc25.taken b with
   | bad v =>
    rw [ht] at q
    exact fun H'=>⟨v,rfl,fun l hl=>q _ l upd_same⟩
   | good pg =>
    rw [ht] at q
    refine fun H' v pr lg=>?_
    exact ⟨_,rfl,_,pg,rfl,pr,lg,fun H2 e2=>⟨(by show 1<=sizeLine; decide),fun l hl=>q _ l upd_same⟩⟩
end
end Pg
namespace Pg
open PySem PySem.Spec PyProof.Rows L2 Xc
open Sc25 (Bytes)
theorem al0 {F:List Value->Prop} (h:F []):∀ us:List Value,us.length=0->F us
 | [],_=>h
theorem alC {n:Nat} {F:List Value->Prop} (h:∀ (a:Value) (us:List Value),us.length=n->F (a :: us)):∀ us:List Value,us.length=n+1->F us
 | a :: us,e=>h a us (Nat.succ.inj e)
theorem qnL {K:PySem.W.Frag} {C:Addr} {cd:ClassData} {name:Str} (h:PySem.W.clsIn K C=some cd) (h1:cd.hasDict=true) (h2:Xc.WN cd.mro=true) (s:PySem.W.findIn K (.ref C) "__setattr__" = some (some (.builtin "object.__setattr__"))) (n:PySem.W.findIn K (.ref C) name=some none):Xc.XCls K C name:=⟨⟨cd,h,h1,h2⟩,s,n⟩
theorem qoe {K:PySem.W.Frag} {f:Addr} {o:Obj} (l:K.lookup f=some o) (c:o.cls=.type "function"):∃ o,K.lookup f=some o/\o.cls=.type "function" := ⟨o,l,c⟩
def XObj (K:PySem.W.Frag) (C:Addr):Prop:=∃ (nm q:Str) (N:Addr) (bs bm:List Value) (hdct:Bool) (sn:List Str) (sub:List Value) (ab:Bool) (col:Option Bool) (dd:Option Addr) (k0 k1 k2 k3 k5:Option Value),
  K.lookup C=some (excClassObj nm q C N bs bm hdct sn sub ab col dd k0 k1 k2 k3 k5 "Exception.__new__")/\Tail "Exception" bm
theorem qnS {K:PySem.W.Frag} {C N:Addr} {nm q:Str} {bs bm:List Value} {hdct:Bool} {sn:List Str} {sub:List Value} {ab:Bool} {col:Option Bool} {dd:Option Addr} {k0 k1 k2 k3 k5:Option Value}
  (l:K.lookup C=some (excClassObj nm q C N bs bm hdct sn sub ab col dd k0 k1 k2 k3 k5 "Exception.__new__")) (t:Tail "Exception" bm):XObj K C:=⟨nm,q,N,bs,bm,hdct,sn,sub,ab,col,dd,k0,k1,k2,k3,k5,l,t⟩
def valsOk:List V->List Value->Prop
 | [],[]=>True
 | x :: xs,u :: us=>RelV x u/\valsOk xs us
 | _,_=>False
theorem qj2:∀ {xs:List V} {us:List Value},valsOk xs us->Vals xs us
 | [],[],_=>.nil
 | x :: xs,u :: us,h=>.cons h.1 (qj2 h.2)
 | [],_ :: _,h=>h.elim
 | _ :: _,[],h=>h.elim
theorem qn4 {K:PySem.W.Frag} {H:Hp} {a:Addr} {xs:List V} {od:Option Addr} {its:Array Value} {n:Nat} {sl:Array (Option Value)} (l:K.lookup a=some ⟨.type "tuple",od,.seq its n,sl⟩) (hz:its.size<=64) (v:Vals xs its.toList):SqT K H a xs :=
 .inr ⟨_,its,n,l,rfl,rfl,Nat.le_trans hz (by decide),v⟩
def qjm (w:World):List DictEntry->List (Key×V)->Prop
 | [],[]=>True
 | e :: es,kv :: kvs=>(keyIs kv.1 e.key=true/\e.hash=keyH w kv.1/\RelV kv.2 e.val)/\qjm w es kvs
 | _,_=>False
theorem qjG {P:Program} {w:World}:∀ {es:List DictEntry} {kvs:List (Key×V)},qjm w es kvs->∃ vs,KV kvs vs/\Pairs (mixKind P w) es vs/\vs.map (·.1)=kvs.map (·.1)/\∀ e ∈ es,∃ k,(mixKind P w).is k e.key=true/\e.hash=(mixKind P w).hash k
 | [],[],_=>⟨[],.nil,.nil,rfl,fun _ h=>by cases h⟩
 | e :: es,kv :: kvs,⟨⟨h1,h2,h3⟩,h⟩=>by
  obtain ⟨vs,a,b,c,d⟩:=qjG (P:=P) h
  refine ⟨(kv.1,e.val) :: vs,.cons ⟨rfl,h3⟩ a,.cons h1 rfl b,by rw [List.map_cons,List.map_cons,c],fun x hx=>?_⟩
  rcases List.mem_cons.mp hx with rfl | hx
  ·exact ⟨kv.1,h1,h2⟩
  ·exact d x hx
 | [],_ :: _,h=>h.elim
 | _ :: _,[],h=>h.elim
theorem qn6 {P:Program} {w:World} {K:PySem.W.Frag} {a:Addr} {kvs:List (Key×V)} {es:Array DictEntry} {n:Nat} (l:K.lookup a=some ⟨.type "dict",none,.dict es n,#[]⟩) (hs:(a == sysModules)=false) (nd:(kvs.map (·.1)).Nodup) (h:qjm w es.toList kvs):TabK P w K a kvs:=by
 obtain ⟨vs,r,p,e,d⟩:=qjG (P:=P) h
 refine ⟨hs,vs,r,fun hh X=>⟨_,es,n,X _ _ l,⟨rfl,rfl,rfl⟩,rfl,fun x hx=>d x (Array.mem_toList_iff.mpr hx),p,by rw [e]; exact nd⟩⟩
theorem qgJ {K:PySem.W.Frag} {C:Addr} {v:Value} {b:Bool} (h:PySem.W.mroIn K C v=some b):(PySem.W.clsIn K C).isSome=true:=by
 unfold PySem.W.mroIn at h
 cases q:PySem.W.clsIn K C with
 | none=>rw [q] at h; cases h
 | some c=>rfl
theorem gk {K:PySem.W.Frag} {S C:Addr} {b:Bool} (ne:S≠C) (hc:PySem.W.mroIn K C (.type "object")=some b) (ht:PySem.W.typeIn K (.ref C)=some (.type "type")) (hm:PySem.W.mroIn K S (.ref C)=some false):PySem.W.kitOne K (.ref S) (.ref C)=some false:=by
 unfold PySem.W.kitOne PySem.W.kitCls
 rw [if_neg (fun z=>ne (by have:=beq_iff_eq.mp z; injection this))]
 dsimp only
 rw [qgJ hc,ht,if_pos (by rfl)]
 exact hm
theorem qd7 {K:PySem.W.Frag} {C:Addr}:PySem.W.kitOne K (.ref C) (.ref C)=some true:=by
 unfold PySem.W.kitOne
 rw [if_pos (beq_self_eq_true _)]
theorem qgy {K:PySem.W.Frag} {R C:Addr} (h1:PySem.W.mroIn K R (.type "BaseException")=some true) (h2:PySem.W.typeIn K (.ref R)=some (.type "type")) (h3:PySem.W.mroIn K C (.ref R)=some true):PySem.W.exmOne K (.ref C) (.ref R)=some true:=by
 unfold PySem.W.exmOne
 have e:PySem.W.subIn K (.ref R) (.type "BaseException")=some true:=h1
 rw [e,if_pos (by rfl)]
 unfold PySem.W.kitCls
 dsimp only
 rw [qgJ h1,h2,if_pos (by rfl)]
 exact h3
theorem qon {P:Program} {w:World} {K:PySem.W.Frag} {h:Heap} {mg:Str->Option Value} {fa:Addr} (X:K.In h) (G:h.Ns mainGlobals mg) (hfa:mg "check" = some (.ref fa))
  {qi zy zR zB zu qW qC z7 zH zE qK zN qx zr qJ z6 qg qt jo zX z8 z9 zZ jF jQ jY jj jP jk jn zY zc zp zK zf zM jr je jb jx jL jw jM jH wu jy jA jf jl jm zg zj zA qR qN qT qI qL zx jc zU zT zq zL qp qX qu qP jq jz zz qM qQ qU zm qZ qY jg zW wk jE ju wO jX wQ Q6 jd wg wy:Addr} {kLONGEST_WORD kFIRST_NUMBER_TOO_LARGE kLINE_END kREMARK kLESS kEQUALS kGREATER kUNDERSCORE kNO_BYTE kDEEPEST kMOST_BYTES kMOST_WORDS kMOST_GLOBALS kMOST_PROCEDURES kMOST_PARAMETERS kSMALL_LETTERS kLARGE_LETTERS kDIGITS:Tok}
  (qdi:PySem.W.nsIn K mainGlobals "Refusal" = some (some (.ref qi)))
  (X4:PySem.W.nsIn K mainGlobals "OutOfRange" = some (some (.ref zy)))
  (qaN:PySem.W.nsIn K mainGlobals "Misplaced" = some (some (.ref zR)))
  (qaR:PySem.W.nsIn K mainGlobals "OverLimit" = some (some (.ref zB)))
  (U0:PySem.W.nsIn K mainGlobals "RuleBroken" = some (some (.ref zu)))
  (qfP:PySem.W.nsIn K mainGlobals "Token" = some (some (.ref qW)))
  (qdA:PySem.W.nsIn K mainGlobals "Scanner" = some (some (.ref qC)))
  (qdJ:PySem.W.nsIn K mainGlobals "Program" = some (some (.ref z7)))
  (qcq:PySem.W.nsIn K mainGlobals "Declared" = some (some (.ref zH)))
  (qaZ:PySem.W.nsIn K mainGlobals "Procedure" = some (some (.ref zE)))
  (qeq:PySem.W.nsIn K mainGlobals "Change" = some (some (.ref qK)))
  (qg7:PySem.W.nsIn K mainGlobals "Swap" = some (some (.ref zN)))
  (qen:PySem.W.nsIn K mainGlobals "Forked" = some (some (.ref qx)))
  (qgS:PySem.W.nsIn K mainGlobals "Call" = some (some (.ref zr)))
  (qgo:PySem.W.nsIn K mainGlobals "Local" = some (some (.ref qJ)))
  (qg8:PySem.W.nsIn K mainGlobals "Skip" = some (some (.ref z6)))
  (qej:PySem.W.nsIn K mainGlobals "Parser" = some (some (.ref qg)))
  (qev:PySem.W.nsIn K mainGlobals "Search" = some (some (.ref qt)))
  (qcg:PySem.W.findIn K (.ref qi) "__init__" = some (some (.ref jo)))
  (Jv:PySem.W.findIn K (.ref zy) "__init__" = some (some (.ref zX)))
  (JP:PySem.W.findIn K (.ref zR) "__init__" = some (some (.ref z8)))
  (JK:PySem.W.findIn K (.ref zB) "__init__" = some (some (.ref z9)))
  (Jx:PySem.W.findIn K (.ref zu) "__init__" = some (some (.ref zZ)))
  (UL:PySem.W.findIn K (.ref qW) "__init__" = some (some (.ref jF)))
  (qaT:PySem.W.nsIn K mainGlobals "is_letter" = some (some (.ref jQ)))
  (qbU:PySem.W.nsIn K mainGlobals "is_digit" = some (some (.ref jY)))
  (Wt:PySem.W.nsIn K mainGlobals "is_within_word" = some (some (.ref jj)))
  (qaY:PySem.W.nsIn K mainGlobals "letter_of" = some (some (.ref jP)))
  (Y5:PySem.W.findIn K (.ref qC) "__init__" = some (some (.ref jk)))
  (Yz:PySem.W.findIn K (.ref qC) "scan" = some (some (.ref jn)))
  (Jp:PySem.W.findIn K (.ref qC) "byte_at" = some (some (.ref zY)))
  (Qe:PySem.W.findIn K (.ref qC) "pass_blanks" = some (some (.ref zc)))
  (gJ:PySem.W.findIn K (.ref qC) "pass_remark" = some (some (.ref zp)))
  (Zm:PySem.W.findIn K (.ref qC) "scan_word" = some (some (.ref zK)))
  (gF:PySem.W.findIn K (.ref qC) "scan_number" = some (some (.ref zf)))
  (Zj:PySem.W.findIn K (.ref qC) "scan_sign" = some (some (.ref zM)))
  (Ge:PySem.W.findIn K (.ref z7) "__init__" = some (some (.ref jr)))
  (Vc:PySem.W.findIn K (.ref zH) "__init__" = some (some (.ref je)))
  (Wg:PySem.W.findIn K (.ref zE) "__init__" = some (some (.ref jb)))
  (Ku:PySem.W.findIn K (.ref qK) "__init__" = some (some (.ref jx)))
  (qaX:PySem.W.findIn K (.ref zN) "__init__" = some (some (.ref jL)))
  (Xm:PySem.W.findIn K (.ref qx) "__init__" = some (some (.ref jw)))
  (qa0:PySem.W.findIn K (.ref zr) "__init__" = some (some (.ref jM)))
  (U6:PySem.W.findIn K (.ref qJ) "__init__" = some (some (.ref jH)))
  (qdI:PySem.W.nsIn K mainGlobals "release" = some (some (.ref wu)))
  (GX:PySem.W.findIn K (.ref qg) "__init__" = some (some (.ref jy)))
  (Km:PySem.W.findIn K (.ref qg) "take" = some (some (.ref jA)))
  (Vq:PySem.W.findIn K (.ref qg) "passes" = some (some (.ref jf)))
  (Yt:PySem.W.findIn K (.ref qg) "enter" = some (some (.ref jl)))
  (Yr:PySem.W.findIn K (.ref qg) "leave" = some (some (.ref jm)))
  (gH:PySem.W.findIn K (.ref qg) "read_program" = some (some (.ref zg)))
  (gZ:PySem.W.findIn K (.ref qg) "read_globals" = some (some (.ref zj)))
  (Qy:PySem.W.findIn K (.ref qg) "read_global" = some (some (.ref zA)))
  (vZ:PySem.W.findIn K (.ref qg) "read_procedure" = some (some (.ref qR)))
  (vo:PySem.W.findIn K (.ref qg) "read_parameters" = some (some (.ref qN)))
  (yw:PySem.W.findIn K (.ref qg) "read_parameter" = some (some (.ref qT)))
  (Zb:PySem.W.findIn K (.ref qg) "read_block" = some (some (.ref qI)))
  (vQ:PySem.W.findIn K (.ref qg) "read_statement" = some (some (.ref qL)))
  (QR:PySem.W.findIn K (.ref qg) "read_change" = some (some (.ref zx)))
  (J0:PySem.W.findIn K (.ref qg) "read_if" = some (some (.ref jc)))
  (ZF:PySem.W.findIn K (.ref qg) "read_from" = some (some (.ref zU)))
  (Z3:PySem.W.findIn K (.ref qg) "read_call" = some (some (.ref zT)))
  (QJ:PySem.W.findIn K (.ref qg) "read_handed" = some (some (.ref zq)))
  (Zu:PySem.W.findIn K (.ref qg) "read_local" = some (some (.ref zL)))
  (vy:PySem.W.findIn K (.ref qg) "read_expression" = some (some (.ref qp)))
  (gM:PySem.W.findIn K (.ref qg) "read_operand" = some (some (.ref qX)))
  (wL:PySem.W.findIn K (.ref qg) "read_plain_operand" = some (some (.ref qu)))
  (yM:PySem.W.findIn K (.ref qg) "read_variable" = some (some (.ref qP)))
  (Vp:PySem.W.nsIn K mainGlobals "broken_places" = some (some (.ref jq)))
  (Kr:PySem.W.findIn K (.ref qt) "__init__" = some (some (.ref jz)))
  (QL:PySem.W.findIn K (.ref qt) "look_within" = some (some (.ref zz)))
  (yS:PySem.W.findIn K (.ref qt) "look_at_block" = some (some (.ref qM)))
  (vW:PySem.W.findIn K (.ref qt) "look_at_change" = some (some (.ref qQ)))
  (v8:PySem.W.findIn K (.ref qt) "look_at_forked" = some (some (.ref qU)))
  (gU:PySem.W.findIn K (.ref qt) "look_at_call" = some (some (.ref zm)))
  (gm:PySem.W.findIn K (.ref qt) "look_at_local" = some (some (.ref qZ)))
  (gf:PySem.W.findIn K (.ref qt) "look_at_names" = some (some (.ref qY)))
  (W8:PySem.W.findIn K (.ref qt) "expect" = some (some (.ref jg)))
  (Jo:PySem.W.findIn K (.ref qt) "keep_out" = some (some (.ref zW)))
  (qc8:PySem.W.nsIn K mainGlobals "take_in" = some (some (.ref wk)))
  (GF:PySem.W.nsIn K mainGlobals "count_words" = some (some (.ref jE)))
  (YZ:PySem.W.nsIn K mainGlobals "is_too_large" = some (some (.ref ju)))
  (qcK:PySem.W.nsIn K mainGlobals "check" = some (some (.ref wO)))
  (qes:PySem.W.plainGet K qW Str.empty=true)
  (qeF:PySem.W.hasDictIn K qW=true)
  (qeh:PySem.W.plainOver K qW=true)
  (qei:PySem.W.findIn K (.ref qW) "__setattr__" = some (some (.builtin "object.__setattr__")))
  (qeH:PySem.W.makesIn K qW=true)
  (qeu:PySem.W.isFn K (.ref jF)=true)
  (qeA:PySem.W.keepIn K (.ref qW)=true)
  (Xi:PySem.W.findIn K (.ref qW) "kind" = some none)
  (Yp:PySem.W.findIn K (.ref qW) "value" = some none)
  (YQ:PySem.W.findIn K (.ref qW) "place" = some none)
  (Jg:PySem.W.findIn K (.ref qW) "spelling" = some none)
  (qbN:PySem.W.plainGet K qC Str.empty=true)
  (qbA:PySem.W.hasDictIn K qC=true)
  (qcc:PySem.W.plainOver K qC=true)
  (qb6:PySem.W.findIn K (.ref qC) "__setattr__" = some (some (.builtin "object.__setattr__")))
  (qcf:PySem.W.makesIn K qC=true)
  (qbB:PySem.W.isFn K (.ref jk)=true)
  (qbI:PySem.W.keepIn K (.ref qC)=true)
  (W9:PySem.W.findIn K (.ref qC) "text" = some none)
  (Q4:PySem.W.findIn K (.ref qC) "position" = some none)
  (qcs:PySem.W.plainGet K z7 Str.empty=true)
  (qb0:PySem.W.hasDictIn K z7=true)
  (qb4:PySem.W.plainOver K z7=true)
  (qb1:PySem.W.findIn K (.ref z7) "__setattr__" = some (some (.builtin "object.__setattr__")))
  (qbJ:PySem.W.makesIn K z7=true)
  (qbY:PySem.W.isFn K (.ref jr)=true)
  (qbu:PySem.W.keepIn K (.ref z7)=true)
  (vU:PySem.W.findIn K (.ref z7) "global_names" = some none)
  (Qc:PySem.W.findIn K (.ref z7) "procedures" = some none)
  (Vw:PySem.W.findIn K (.ref z7) "main" = some none)
  (qaM:PySem.W.plainGet K zH Str.empty=true)
  (qaD:PySem.W.hasDictIn K zH=true)
  (qa2:PySem.W.plainOver K zH=true)
  (qaI:PySem.W.findIn K (.ref zH) "__setattr__" = some (some (.builtin "object.__setattr__")))
  (qaW:PySem.W.makesIn K zH=true)
  (qaG:PySem.W.isFn K (.ref je)=true)
  (qaP:PySem.W.keepIn K (.ref zH)=true)
  (Ww:PySem.W.findIn K (.ref zH) "name" = some none)
  (ZL:PySem.W.findIn K (.ref zH) "is_row" = some none)
  (Ws:PySem.W.findIn K (.ref zH) "size" = some none)
  (ZJ:PySem.W.findIn K (.ref zH) "number" = some none)
  (U4:PySem.W.plainGet K zE Str.empty=true)
  (Uk:PySem.W.hasDictIn K zE=true)
  (XS:PySem.W.plainOver K zE=true)
  (qad:PySem.W.findIn K (.ref zE) "__setattr__" = some (some (.builtin "object.__setattr__")))
  (qaf:PySem.W.makesIn K zE=true)
  (X7:PySem.W.isFn K (.ref jb)=true)
  (UG:PySem.W.keepIn K (.ref zE)=true)
  (Ji:PySem.W.findIn K (.ref zE) "name" = some none)
  (ym:PySem.W.findIn K (.ref zE) "parameters" = some none)
  (Z2:PySem.W.findIn K (.ref zE) "block" = some none)
  (qdv:PySem.W.plainGet K qK Str.empty=true)
  (qdF:PySem.W.hasDictIn K qK=true)
  (qc4:PySem.W.plainOver K qK=true)
  (qdy:PySem.W.findIn K (.ref qK) "__setattr__" = some (some (.builtin "object.__setattr__")))
  (qdx:PySem.W.makesIn K qK=true)
  (qdh:PySem.W.isFn K (.ref jx)=true)
  (qdu:PySem.W.keepIn K (.ref qK)=true)
  (ZR:PySem.W.findIn K (.ref qK) "variable" = some none)
  (YB:PySem.W.findIn K (.ref qK) "sign" = some none)
  (Qo:PySem.W.findIn K (.ref qK) "expression" = some none)
  (qfR:PySem.W.plainGet K zN Str.empty=true)
  (qfC:PySem.W.hasDictIn K zN=true)
  (qf2:PySem.W.plainOver K zN=true)
  (qfX:PySem.W.findIn K (.ref zN) "__setattr__" = some (some (.builtin "object.__setattr__")))
  (qf9:PySem.W.makesIn K zN=true)
  (qfL:PySem.W.isFn K (.ref jL)=true)
  (qf4:PySem.W.keepIn K (.ref zN)=true)
  (qah:PySem.W.findIn K (.ref zN) "left" = some none)
  (Xp:PySem.W.findIn K (.ref zN) "right" = some none)
  (qc7:PySem.W.plainGet K qx Str.empty=true)
  (qdf:PySem.W.hasDictIn K qx=true)
  (qcZ:PySem.W.plainOver K qx=true)
  (qcY:PySem.W.findIn K (.ref qx) "__setattr__" = some (some (.builtin "object.__setattr__")))
  (qdm:PySem.W.makesIn K qx=true)
  (qda:PySem.W.isFn K (.ref jw)=true)
  (qdH:PySem.W.keepIn K (.ref qx)=true)
  (YX:PySem.W.findIn K (.ref qx) "kind" = some none)
  (Je:PySem.W.findIn K (.ref qx) "opening" = some none)
  (Wz:PySem.W.findIn K (.ref qx) "before" = some none)
  (Vb:PySem.W.findIn K (.ref qx) "first" = some none)
  (JQ:PySem.W.findIn K (.ref qx) "second" = some none)
  (Js:PySem.W.findIn K (.ref qx) "closing" = some none)
  (Wq:PySem.W.findIn K (.ref qx) "behind" = some none)
  (qf1:PySem.W.plainGet K zr Str.empty=true)
  (qfG:PySem.W.hasDictIn K zr=true)
  (qf5:PySem.W.plainOver K zr=true)
  (qfr:PySem.W.findIn K (.ref zr) "__setattr__" = some (some (.builtin "object.__setattr__")))
  (qgg:PySem.W.makesIn K zr=true)
  (qfT:PySem.W.isFn K (.ref jM)=true)
  (qgm:PySem.W.keepIn K (.ref zr)=true)
  (XQ:PySem.W.findIn K (.ref zr) "kind" = some none)
  (Jt:PySem.W.findIn K (.ref zr) "procedure" = some none)
  (YM:PySem.W.findIn K (.ref zr) "handed" = some none)
  (qfa:PySem.W.plainGet K qJ Str.empty=true)
  (qel:PySem.W.hasDictIn K qJ=true)
  (qe9:PySem.W.plainOver K qJ=true)
  (qew:PySem.W.findIn K (.ref qJ) "__setattr__" = some (some (.builtin "object.__setattr__")))
  (qe2:PySem.W.makesIn K qJ=true)
  (qe8:PySem.W.isFn K (.ref jH)=true)
  (qeP:PySem.W.keepIn K (.ref qJ)=true)
  (Wo:PySem.W.findIn K (.ref qJ) "opening" = some none)
  (KC:PySem.W.findIn K (.ref qJ) "name" = some none)
  (Vl:PySem.W.findIn K (.ref qJ) "before" = some none)
  (Yn:PySem.W.findIn K (.ref qJ) "block" = some none)
  (We:PySem.W.findIn K (.ref qJ) "closing" = some none)
  (W6:PySem.W.findIn K (.ref qJ) "behind" = some none)
  (qfV:PySem.W.plainGet K z6 Str.empty=true)
  (qfF:PySem.W.hasDictIn K z6=true)
  (qgb:PySem.W.plainOver K z6=true)
  (qga:PySem.W.findIn K (.ref z6) "__setattr__" = some (some (.builtin "object.__setattr__")))
  (qfO:PySem.W.makesIn K z6=true)
  (qfs:PySem.W.findIn K (.ref z6) "__init__" = some (some (.builtin "object.__init__")))
  (qft:PySem.W.keepIn K (.ref z6)=true)
  (qdp:PySem.W.plainGet K qg Str.empty=true)
  (qdB:PySem.W.hasDictIn K qg=true)
  (qc0:PySem.W.plainOver K qg=true)
  (qdj:PySem.W.findIn K (.ref qg) "__setattr__" = some (some (.builtin "object.__setattr__")))
  (qc3:PySem.W.makesIn K qg=true)
  (qcU:PySem.W.isFn K (.ref jy)=true)
  (qdk:PySem.W.keepIn K (.ref qg)=true)
  (Jh:PySem.W.findIn K (.ref qg) "scanner" = some none)
  (Vg:PySem.W.findIn K (.ref qg) "token" = some none)
  (Vo:PySem.W.findIn K (.ref qg) "depth" = some none)
  (qdD:PySem.W.plainGet K qt Str.empty=true)
  (qdl:PySem.W.hasDictIn K qt=true)
  (qdG:PySem.W.plainOver K qt=true)
  (qdq:PySem.W.findIn K (.ref qt) "__setattr__" = some (some (.builtin "object.__setattr__")))
  (qdo:PySem.W.makesIn K qt=true)
  (qdb:PySem.W.isFn K (.ref jz)=true)
  (qdr:PySem.W.keepIn K (.ref qt)=true)
  (J5:PySem.W.findIn K (.ref qt) "broken" = some none)
  (QT:PySem.W.findIn K (.ref qt) "procedures" = some none)
  (Yy:PySem.W.findIn K (.ref qt) "seen" = some none)
  (Q0:PySem.W.mroIn K qi (.type "BaseException")=some true)
  (Zt:PySem.W.typeIn K (.ref qi)=some (.type "type"))
  (WM:PySem.W.mroIn K zy (.ref qi)=some true)
  (Uj:PySem.W.mroIn K zy (.type "BaseException")=some true)
  (GJ:PySem.W.findIn K (.ref zy) "__getattribute__" = some (some (.builtin "BaseException.__getattribute__")))
  (Xa:PySem.W.findIn K (.ref zy) "__getattr__" = some none)
  (Xk:PySem.W.hasDictIn K zy=true)
  (Ks:PySem.W.findIn K (.ref zy) "number" = some none)
  (qcA:PySem.W.findIn K (.ref zy) "__setattr__" = some (some (.builtin "object.__setattr__")))
  (Xl:PySem.W.keepIn K (.ref zy)=true)
  (Xj:∃ o,K.lookup zX=some o/\o.cls=.type "function")
  (Kw:Xc.XCls K zy "number")
  (KD:Pg.XObj K zy)
  (Yl:PySem.W.mroIn K zR (.ref qi)=some true)
  (qaV:PySem.W.mroIn K zR (.type "BaseException")=some true)
  (XN:PySem.W.findIn K (.ref zR) "__getattribute__" = some (some (.builtin "BaseException.__getattribute__")))
  (XR:PySem.W.findIn K (.ref zR) "__getattr__" = some none)
  (Uw:PySem.W.hasDictIn K zR=true)
  (Ud:PySem.W.findIn K (.ref zR) "number" = some none)
  (qdU:PySem.W.findIn K (.ref zR) "__setattr__" = some (some (.builtin "object.__setattr__")))
  (qac:PySem.W.keepIn K (.ref zR)=true)
  (XM:∃ o,K.lookup z8=some o/\o.cls=.type "function")
  (Ua:Xc.XCls K zR "number")
  (Uz:Pg.XObj K zR)
  (Ym:PySem.W.mroIn K zB (.ref qi)=some true)
  (qaJ:PySem.W.mroIn K zB (.type "BaseException")=some true)
  (qag:PySem.W.findIn K (.ref zB) "__getattribute__" = some (some (.builtin "BaseException.__getattribute__")))
  (qab:PySem.W.findIn K (.ref zB) "__getattr__" = some none)
  (Ur:PySem.W.hasDictIn K zB=true)
  (qai:PySem.W.findIn K (.ref zB) "number" = some none)
  (qd2:PySem.W.findIn K (.ref zB) "__setattr__" = some (some (.builtin "object.__setattr__")))
  (Us:PySem.W.keepIn K (.ref zB)=true)
  (U9:∃ o,K.lookup z9=some o/\o.cls=.type "function")
  (UW:Xc.XCls K zB "number")
  (UJ:Pg.XObj K zB)
  (WL:PySem.W.mroIn K zu (.ref qi)=some true)
  (Uu:PySem.W.mroIn K zu (.type "BaseException")=some true)
  (K9:PySem.W.findIn K (.ref zu) "__getattribute__" = some (some (.builtin "BaseException.__getattribute__")))
  (Ka:PySem.W.findIn K (.ref zu) "__getattr__" = some none)
  (Gz:PySem.W.hasDictIn K zu=true)
  (Xb:PySem.W.findIn K (.ref zu) "number" = some none)
  (qcx:PySem.W.findIn K (.ref zu) "__setattr__" = some (some (.builtin "object.__setattr__")))
  (K8:PySem.W.keepIn K (.ref zu)=true)
  (KQ:∃ o,K.lookup zZ=some o/\o.cls=.type "function")
  (G9:Xc.XCls K zu "number")
  (Kl:Pg.XObj K zu)
  (qce:PySem.W.specialIn K (.ref qi) "__getattribute__" = some (some (.builtin "type.__getattribute__")))
  (qca:PySem.W.readsIn K qi (.type "type")=true)
  (qb8:PySem.W.findCls K (.ref qi) (.type "type") "__init__" = some (.val (.ref jo)))
  (Va:Fn K "__init__" "Refusal.__init__" X3 jo ["self","number"])
  (Vy:PySem.W.keepIn K (.ref jo)=true)
  (ZX:Fn K "__init__" "OutOfRange.__init__" Vt zX ["self"])
  (Xg:PySem.W.keepIn K (.ref zX)=true)
  (Jk:Fn K "__init__" "Misplaced.__init__" Yq z8 ["self","place"])
  (Xv:PySem.W.keepIn K (.ref z8)=true)
  (Jz:Fn K "__init__" "OverLimit.__init__" YW z9 ["self"])
  (Xy:PySem.W.keepIn K (.ref z9)=true)
  (ZW:Fn K "__init__" "RuleBroken.__init__" W0 zZ ["self","place"])
  (Kz:PySem.W.keepIn K (.ref zZ)=true)
  (Kd:Fn K "__init__" "Token.__init__" qcb jF ["self","kind","value","place","spelling"])
  (qcy:PySem.W.keepIn K (.ref jF)=true)
  (qak:Fn K "is_letter" "is_letter" qdC jQ ["byte"])
  (qdS:PySem.W.keepIn K (.ref jQ)=true)
  (qaU:Fn K "is_digit" "is_digit" qe1 jY ["byte"])
  (qfj:PySem.W.keepIn K (.ref jY)=true)
  (Ju:Fn K "is_within_word" "is_within_word" Y8 jj ["byte"])
  (Xz:PySem.W.keepIn K (.ref jj)=true)
  (Ux:Fn K "letter_of" "letter_of" qc5 jP ["byte"])
  (qdX:PySem.W.keepIn K (.ref jP)=true)
  (Vv:Fn K "__init__" "Scanner.__init__" U7 jk ["self","text"])
  (qbd:PySem.W.keepIn K (.ref jk)=true)
  (W4:Fn K "scan" "Scanner.scan" Ui jn ["self"])
  (W5:PySem.W.keepIn K (.ref jn)=true)
  (Vk:PySem.W.isFn K (.ref jn)=true)
  (ZS:Fn K "byte_at" "Scanner.byte_at" Vf zY ["self","place"])
  (ZG:PySem.W.keepIn K (.ref zY)=true)
  (ZK:PySem.W.isFn K (.ref zY)=true)
  (yK:Fn K "pass_blanks" "Scanner.pass_blanks" Za zc ["self"])
  (yH:PySem.W.keepIn K (.ref zc)=true)
  (yL:PySem.W.isFn K (.ref zc)=true)
  (gh:Fn K "pass_remark" "Scanner.pass_remark" Zy zp ["self"])
  (yW:PySem.W.keepIn K (.ref zp)=true)
  (yZ:PySem.W.isFn K (.ref zp)=true)
  (Qp:Fn K "scan_word" "Scanner.scan_word" gD zK ["self"])
  (Qu:PySem.W.keepIn K (.ref zK)=true)
  (Qz:PySem.W.isFn K (.ref zK)=true)
  (yU:Fn K "scan_number" "Scanner.scan_number" Zh zf ["self"])
  (gb:PySem.W.keepIn K (.ref zf)=true)
  (gB:PySem.W.isFn K (.ref zf)=true)
  (Qv:Fn K "scan_sign" "Scanner.scan_sign" Jd zM ["self","first"])
  (Qw:PySem.W.keepIn K (.ref zM)=true)
  (QD:PySem.W.isFn K (.ref zM)=true)
  (Vu:Fn K "__init__" "Program.__init__" Uv jr ["self","global_names","procedures","main"])
  (qa3:PySem.W.keepIn K (.ref jr)=true)
  (Wn:Fn K "__init__" "Declared.__init__" KJ je ["self","name","is_row","size","number"])
  (qat:PySem.W.keepIn K (.ref je)=true)
  (Jy:Fn K "__init__" "Procedure.__init__" YD jb ["self","name","parameters","block"])
  (XF:PySem.W.keepIn K (.ref jb)=true)
  (YF:Fn K "__init__" "Change.__init__" qaC jx ["self","variable","sign","expression"])
  (qbS:PySem.W.keepIn K (.ref jx)=true)
  (Uq:Fn K "__init__" "Swap.__init__" qdc jL ["self","left","right"])
  (qdY:PySem.W.keepIn K (.ref jL)=true)
  (Yx:Fn K "__init__" "Forked.__init__" qa1 jw ["self","kind","opening","before","first","second","closing","behind"])
  (qbV:PySem.W.keepIn K (.ref jw)=true)
  (XX:Fn K "__init__" "Call.__init__" qcW jM ["self","kind","procedure","handed"])
  (qdZ:PySem.W.keepIn K (.ref jM)=true)
  (Kv:Fn K "__init__" "Local.__init__" qbW jH ["self","opening","name","before","block","closing","behind"])
  (qcG:PySem.W.keepIn K (.ref jH)=true)
  (qcd:Fn K "release" "release" qf7 wu ["waiting","found","strength"])
  (qgj:PySem.W.keepIn K (.ref wu)=true)
  (YH:Fn K "__init__" "Parser.__init__" qaH jy ["self","text"])
  (qbZ:PySem.W.keepIn K (.ref jy)=true)
  (YT:Fn K "take" "Parser.take" qaE jA ["self","kind"])
  (Yv:PySem.W.keepIn K (.ref jA)=true)
  (YS:PySem.W.isFn K (.ref jA)=true)
  (JZ:Fn K "passes" "Parser.passes" Ky jf ["self","kind"])
  (J7:PySem.W.keepIn K (.ref jf)=true)
  (Wb:PySem.W.isFn K (.ref jf)=true)
  (Ve:Fn K "enter" "Parser.enter" U5 jl ["self","kind"])
  (W3:PySem.W.keepIn K (.ref jl)=true)
  (Vx:PySem.W.isFn K (.ref jl)=true)
  (Vj:Fn K "leave" "Parser.leave" qae jm ["self","kind"])
  (Vi:PySem.W.keepIn K (.ref jm)=true)
  (Vd:PySem.W.isFn K (.ref jm)=true)
  (gj:Fn K "read_program" "Parser.read_program" Ze zg ["self"])
  (gq:PySem.W.keepIn K (.ref zg)=true)
  (gw:PySem.W.isFn K (.ref zg)=true)
  (yJ:Fn K "read_globals" "Parser.read_globals" Q8 zj ["self"])
  (yE:PySem.W.keepIn K (.ref zj)=true)
  (gA:PySem.W.isFn K (.ref zj)=true)
  (gY:Fn K "read_global" "Parser.read_global" ZM zA ["self"])
  (g8:PySem.W.keepIn K (.ref zA)=true)
  (kY:PySem.W.isFn K (.ref zA)=true)
  (vL:Fn K "read_procedure" "Parser.read_procedure" kJ qR ["self"])
  (vh:PySem.W.keepIn K (.ref qR)=true)
  (vm:PySem.W.isFn K (.ref qR)=true)
  (wW:Fn K "read_parameters" "Parser.read_parameters" gr qN ["self"])
  (wX:PySem.W.keepIn K (.ref qN)=true)
  (wZ:PySem.W.isFn K (.ref qN)=true)
  (vA:Fn K "read_parameter" "Parser.read_parameter" gQ qT ["self"])
  (vD:PySem.W.keepIn K (.ref qT)=true)
  (vC:PySem.W.isFn K (.ref qT)=true)
  (QF:Fn K "read_block" "Parser.read_block" Jl qI ["self"])
  (Qx:PySem.W.keepIn K (.ref qI)=true)
  (QC:PySem.W.isFn K (.ref qI)=true)
  (vp:Fn K "read_statement" "Parser.read_statement" kZ qL ["self"])
  (vM:PySem.W.keepIn K (.ref qL)=true)
  (vz:PySem.W.isFn K (.ref qL)=true)
  (gK:Fn K "read_change" "Parser.read_change" Z4 zx ["self"])
  (gG:PySem.W.keepIn K (.ref zx)=true)
  (kh:PySem.W.isFn K (.ref zx)=true)
  (Jf:Fn K "read_if" "Parser.read_if" Y7 jc ["self"])
  (Jr:PySem.W.keepIn K (.ref jc)=true)
  (Jj:PySem.W.isFn K (.ref jc)=true)
  (Zf:Fn K "read_from" "Parser.read_from" J8 zU ["self"])
  (Zn:PySem.W.keepIn K (.ref zU)=true)
  (Zi:PySem.W.isFn K (.ref zU)=true)
  (Zr:Fn K "read_call" "Parser.read_call" Wd zT ["self","kind"])
  (Zw:PySem.W.keepIn K (.ref zT)=true)
  (Zo:PySem.W.isFn K (.ref zT)=true)
  (kO:Fn K "read_handed" "Parser.read_handed" ZP zq ["self"])
  (kW:PySem.W.keepIn K (.ref zq)=true)
  (gP:PySem.W.isFn K (.ref zq)=true)
  (QK:Fn K "read_local" "Parser.read_local" Jm zL ["self"])
  (Qs:PySem.W.keepIn K (.ref zL)=true)
  (QW:PySem.W.isFn K (.ref zL)=true)
  (wY:Fn K "read_expression" "Parser.read_expression" yG qp ["self"])
  (vd:PySem.W.keepIn K (.ref qp)=true)
  (w6:PySem.W.isFn K (.ref qp)=true)
  (yN:Fn K "read_operand" "Parser.read_operand" Zg qX ["self"])
  (yR:PySem.W.keepIn K (.ref qX)=true)
  (yQ:PySem.W.isFn K (.ref qX)=true)
  (wD:Fn K "read_plain_operand" "Parser.read_plain_operand" j6 qu ["self"])
  (wC:PySem.W.keepIn K (.ref qu)=true)
  (wH:PySem.W.isFn K (.ref qu)=true)
  (ye:Fn K "read_variable" "Parser.read_variable" QH qP ["self"])
  (vR:PySem.W.keepIn K (.ref qP)=true)
  (yf:PySem.W.isFn K (.ref qP)=true)
  (J9:Fn K "broken_places" "broken_places" Xn jq ["program"])
  (qav:PySem.W.keepIn K (.ref jq)=true)
  (YC:Fn K "__init__" "Search.__init__" qaQ jz ["self","procedures"])
  (qbC:PySem.W.keepIn K (.ref jz)=true)
  (Qa:Fn K "look_within" "Search.look_within" Z0 zz ["self","declared","block"])
  (kE:PySem.W.keepIn K (.ref zz)=true)
  (km:PySem.W.isFn K (.ref zz)=true)
  (yp:Fn K "look_at_block" "Search.look_at_block" Qt qM ["self","block"])
  (vP:PySem.W.keepIn K (.ref qM)=true)
  (yq:PySem.W.isFn K (.ref qM)=true)
  (vG:Fn K "look_at_change" "Search.look_at_change" gO qQ ["self","variables","expression"])
  (vK:PySem.W.keepIn K (.ref qQ)=true)
  (vJ:PySem.W.isFn K (.ref qQ)=true)
  (vB:Fn K "look_at_forked" "Search.look_at_forked" gW qU ["self","statement"])
  (vI:PySem.W.keepIn K (.ref qU)=true)
  (vH:PySem.W.isFn K (.ref qU)=true)
  (yO:Fn K "look_at_call" "Search.look_at_call" Q3 zm ["self","statement"])
  (yI:PySem.W.keepIn K (.ref zm)=true)
  (gn:PySem.W.isFn K (.ref zm)=true)
  (v9:Fn K "look_at_local" "Search.look_at_local" QG qZ ["self","statement"])
  (yl:PySem.W.keepIn K (.ref qZ)=true)
  (yc:PySem.W.isFn K (.ref qZ)=true)
  (yj:Fn K "look_at_names" "Search.look_at_names" Qq qY ["self","tokens"])
  (yu:PySem.W.keepIn K (.ref qY)=true)
  (yr:PySem.W.isFn K (.ref qY)=true)
  (JL:Fn K "expect" "Search.expect" Xd jg ["self","name","is_row"])
  (JM:PySem.W.keepIn K (.ref jg)=true)
  (JX:PySem.W.isFn K (.ref jg)=true)
  (Z1:Fn K "keep_out" "Search.keep_out" Vh zW ["self","changed","tokens"])
  (ZQ:PySem.W.keepIn K (.ref zW)=true)
  (ZZ:PySem.W.isFn K (.ref zW)=true)
  (qbO:Fn K "take_in" "take_in" qfS wk ["text"])
  (qfM:PySem.W.keepIn K (.ref wk)=true)
  (YK:Fn K "count_words" "count_words" qaO jE ["program"])
  (qcj:PySem.W.keepIn K (.ref jE)=true)
  (Vm:Fn K "is_too_large" "is_too_large" X6 ju ["program"])
  (qbb:PySem.W.keepIn K (.ref ju)=true)
  (qbi:Fn K "check" "check" qgt wO ["text"])
  (qhb:PySem.W.keepIn K (.ref wO)=true)
  (Y9:PySem.W.nsIn K mainGlobals "LONGEST_WORD" = some (some (.int 31 kLONGEST_WORD)))
  (vq:PySem.W.nsIn K mainGlobals "FIRST_NUMBER_TOO_LARGE" = some (some (.int 4294967296 kFIRST_NUMBER_TOO_LARGE)))
  (qbT:PySem.W.nsIn K mainGlobals "LINE_END" = some (some (.int 10 kLINE_END)))
  (qeK:PySem.W.nsIn K mainGlobals "REMARK" = some (some (.int 35 kREMARK)))
  (qg9:PySem.W.nsIn K mainGlobals "LESS" = some (some (.int 60 kLESS)))
  (qeT:PySem.W.nsIn K mainGlobals "EQUALS" = some (some (.int 61 kEQUALS)))
  (qdK:PySem.W.nsIn K mainGlobals "GREATER" = some (some (.int 62 kGREATER)))
  (U3:PySem.W.nsIn K mainGlobals "UNDERSCORE" = some (some (.int 95 kUNDERSCORE)))
  (qdw:PySem.W.nsIn K mainGlobals "NO_BYTE" = some (some (.int 256 kNO_BYTE)))
  (qds:PySem.W.nsIn K mainGlobals "DEEPEST" = some (some (.int 32 kDEEPEST)))
  (U8:PySem.W.nsIn K mainGlobals "MOST_BYTES" = some (some (.int 65536 kMOST_BYTES)))
  (X5:PySem.W.nsIn K mainGlobals "MOST_WORDS" = some (some (.int 4096 kMOST_WORDS)))
  (YL:PySem.W.nsIn K mainGlobals "MOST_GLOBALS" = some (some (.int 256 kMOST_GLOBALS)))
  (Jw:PySem.W.nsIn K mainGlobals "MOST_PROCEDURES" = some (some (.int 256 kMOST_PROCEDURES)))
  (Jq:PySem.W.nsIn K mainGlobals "MOST_PARAMETERS" = some (some (.int 16 kMOST_PARAMETERS)))
  (W7:PySem.W.nsIn K mainGlobals "SMALL_LETTERS" = some (some (.str "abcdefghijklmnopqrstuvwxyz" kSMALL_LETTERS)))
  (W2:PySem.W.nsIn K mainGlobals "LARGE_LETTERS" = some (some (.str "ABCDEFGHIJKLMNOPQRSTUVWXYZ" kLARGE_LETTERS)))
  (qeN:PySem.W.nsIn K mainGlobals "DIGITS" = some (some (.str "0123456789" kDIGITS)))
  (qaL:PySem.W.nsIn K mainGlobals "KEYWORDS" = some (some (.ref jX)))
  (qdz:PySem.W.nsIn K mainGlobals "BLANKS" = some (some (.ref wQ)))
  (qem:PySem.W.nsIn K mainGlobals "SIGNS" = some (some (.ref Q6)))
  (QV:PySem.W.nsIn K mainGlobals "SIGNS_WITH_EQUALS" = some (some (.ref jd)))
  (Uh:PySem.W.nsIn K mainGlobals "STRENGTHS" = some (some (.ref wg)))
  (qb7:PySem.W.nsIn K mainGlobals "CHANGES" = some (some (.ref wy)))
  (qhQ:PySem.W.nsIn K mainGlobals "len" = some none)
  (qib:PySem.W.nsIn K mainGlobals "min" = some none)
  (qhP:PySem.W.nsIn K mainGlobals "sum" = some none)
  (qhO:PySem.W.nsIn K mainGlobals "any" = some none)
  (qgV:PySem.W.nsIn K mainGlobals "list" = some none)
  (qcl:PySem.W.nsIn K mainGlobals "reversed" = some none)
  (qh4:PySem.W.nsIn K mainGlobals "zip" = some none)
  (UV:PySem.W.nsIn K mainGlobals "isinstance" = some none)
  (qdn:PySem.W.findIn K (.ref qK) "__class__" = some (some (.builtin "object.__class__")))
  (yx:PySem.W.mroIn K qK (.type "object")=some true)
  (QM:PySem.W.typeIn K (.ref qK)=some (.type "type"))
  (qfw:PySem.W.findIn K (.ref zN) "__class__" = some (some (.builtin "object.__class__")))
  (Wu:PySem.W.mroIn K zN (.type "object")=some true)
  (Gn:PySem.W.typeIn K (.ref zN)=some (.type "type"))
  (qc2:PySem.W.findIn K (.ref qx) "__class__" = some (some (.builtin "object.__class__")))
  (Jb:PySem.W.mroIn K qx (.type "object")=some true)
  (V4:PySem.W.typeIn K (.ref qx)=some (.type "type"))
  (qgf:PySem.W.findIn K (.ref zr) "__class__" = some (some (.builtin "object.__class__")))
  (qao:PySem.W.mroIn K zr (.type "object")=some true)
  (qcT:PySem.W.typeIn K (.ref zr)=some (.type "type"))
  (qeX:PySem.W.findIn K (.ref qJ) "__class__" = some (some (.builtin "object.__class__")))
  (qbp:PySem.W.mroIn K qJ (.type "object")=some true)
  (qeD:PySem.W.typeIn K (.ref qJ)=some (.type "type"))
  (qfy:PySem.W.findIn K (.ref z6) "__class__" = some (some (.builtin "object.__class__")))
  (qfZ:PySem.W.mroIn K z6 (.type "object")=some true)
  (qiH:PySem.W.typeIn K (.ref z6)=some (.type "type"))
  (qfH:PySem.W.specialIn K (.builtin "object.__class__") "__get__" = some (some (.builtin "getset_descriptor.__get__")))
  (qfB:PySem.W.takesIn K (.builtin "object.__class__")=some true)
  (qex:PySem.W.mroIn K zN (.ref qK)=some false)
  (qef:zN≠qK)
  (qbK:PySem.W.mroIn K qx (.ref qK)=some false)
  (qcn:qx≠qK)
  (qbP:PySem.W.mroIn K qx (.ref zN)=some false)
  (qbR:qx≠zN)
  (qe6:PySem.W.mroIn K zr (.ref qK)=some false)
  (qeC:zr≠qK)
  (qey:PySem.W.mroIn K zr (.ref zN)=some false)
  (qeW:zr≠zN)
  (qeO:PySem.W.mroIn K zr (.ref qx)=some false)
  (qe3:zr≠qx)
  (qcV:PySem.W.mroIn K qJ (.ref qK)=some false)
  (qde:qJ≠qK)
  (qc1:PySem.W.mroIn K qJ (.ref zN)=some false)
  (qcX:qJ≠zN)
  (qdL:PySem.W.mroIn K qJ (.ref qx)=some false)
  (qdg:qJ≠qx)
  (qdd:PySem.W.mroIn K qJ (.ref zr)=some false)
  (qc9:qJ≠zr)
  (qeM:PySem.W.mroIn K z6 (.ref qK)=some false)
  (qeY:z6≠qK)
  (qeE:PySem.W.mroIn K z6 (.ref zN)=some false)
  (qep:z6≠zN)
  (qeJ:PySem.W.mroIn K z6 (.ref qx)=some false)
  (qeU:z6≠qx)
  (qeI:PySem.W.mroIn K z6 (.ref zr)=some false)
  (qeB:z6≠zr)
  (qeR:PySem.W.mroIn K z6 (.ref qJ)=some false)
  (qe5:z6≠qJ)
  (qdt:∀ H,SqT K H wQ [.int 9,.int 10,.int 13,.int 32])
  (qaS:∀ H,SqT K H jX (Sc25.kept.map fun w=>V.str (Ma.sB w)))
  (qbv:∀ H,SqT K H wy [.str "+=",.str "-=",.str "^="])
  (qeL:TabK P w K Q6 qhf)
  (QB:TabK P w K jd qhj)
  (Ug:TabK P w K wg strT)
  : ∃ fd:FuncData,(∀ (s:Shared) (us:List Value),us.length=(["text"]:List Str).length->BindsTo s fd ⟨us,[]⟩ ((["text"]:List Str).zip us))/\∀ base:Heap,K.In base->base.Ns mainGlobals mg->FnOk P w K mg base CX0 142 fa fd ["text"] (qh8 K):=by
 have e:=hfa.symm.trans (PySem.W.mg_of X G qcK)
 obtain rfl:wO=fa:=by
  have e:=Option.some.inj e
  injection e with e
  exact e.symm
 have T:Txt K mg { qi:=qi,zy:=zy,zR:=zR,zB:=zB,zu:=zu,qW:=qW,qC:=qC,z7:=z7,zH:=zH,zE:=zE,qK:=qK,zN:=zN,qx:=qx,zr:=zr,qJ:=qJ,z6:=z6,qg:=qg,qt:=qt,jo:=jo,zX:=zX,z8:=z8,z9:=z9,zZ:=zZ,jF:=jF,jQ:=jQ,jY:=jY,jj:=jj,jP:=jP,jk:=jk,jn:=jn,zY:=zY,zc:=zc,zp:=zp,zK:=zK,zf:=zf,zM:=zM,jr:=jr,je:=je,jb:=jb,jx:=jx,jL:=jL,jw:=jw,jM:=jM,jH:=jH,wu:=wu,jy:=jy,jA:=jA,jf:=jf,jl:=jl,jm:=jm,zg:=zg,zj:=zj,zA:=zA,qR:=qR,qN:=qN,qT:=qT,qI:=qI,qL:=qL,zx:=zx,jc:=jc,zU:=zU,zT:=zT,zq:=zq,zL:=zL,qp:=qp,qX:=qX,qu:=qu,qP:=qP,jq:=jq,jz:=jz,zz:=zz,qM:=qM,qQ:=qQ,qU:=qU,zm:=zm,qZ:=qZ,qY:=qY,jg:=jg,zW:=zW,wk:=wk,jE:=jE,ju:=ju,wO:=wO,jX:=jX,wQ:=wQ,Q6:=Q6,jd:=jd,wg:=wg,wy:=wy:Adr }:={
  qy:=⟨qes,qeF,qeh,qei⟩
  X8:=PySem.W.mg_of X G qfP
  qaj:=⟨qeH,UL,qeu,qeA⟩
  zb:=Xi
  zV:=Yp
  zO:=YQ
  Vn:=Jg
  qD:=⟨qbN,qbA,qcc,qb6⟩
  qhy:=PySem.W.mg_of X G qdA
  qhH:=⟨qcf,Y5,qbB,qbI⟩
  wG:=W9
  qH:=Q4
  wU:=⟨qcs,qb0,qb4,qb1⟩
  qhw:=PySem.W.mg_of X G qdJ
  qhc:=⟨qbJ,Ge,qbY,qbu⟩
  j5:=vU
  jT:=Qc
  Xu:=Vw
  yz:=⟨qaM,qaD,qa2,qaI⟩
  VM:=PySem.W.mg_of X G qcq
  V8:=⟨qaW,Vc,qaG,qaP⟩
  yF:=Ww
  Qh:=ZL
  YJ:=Ws
  qax:=ZJ
  j9:=⟨U4,Uk,XS,qad⟩
  qge:=PySem.W.mg_of X G qaZ
  qgr:=⟨qaf,Wg,X7,UG⟩
  vN:=Ji
  jO:=ym
  JT:=Z2
  qan:=⟨qdv,qdF,qc4,qdy⟩
  qgl:=PySem.W.mg_of X G qeq
  qiL:=⟨qdx,Ku,qdh,qdu⟩
  JV:=ZR
  qd0:=YB
  ZD:=Qo
  qbs:=⟨qfR,qfC,qf2,qfX⟩
  qia:=PySem.W.mg_of X G qg7
  qkf:=⟨qf9,qaX,qfL,qf4⟩
  qbX:=qah
  qaF:=Xp
  wK:=⟨qc7,qdf,qcZ,qcY⟩
  qcF:=PySem.W.mg_of X G qen
  qfp:=⟨qdm,Xm,qda,qdH⟩
  qd8:=YX
  qbf:=Je
  Yo:=Wz
  Kh:=Vb
  Y0:=JQ
  qba:=Js
  Y4:=Wq
  Zk:=⟨qf1,qfG,qf5,qfr⟩
  qic:=PySem.W.mg_of X G qgS
  qke:=⟨qgg,qa0,qfT,qgm⟩
  qgp:=XQ
  vO:=Jt
  WF:=YM
  wF:=⟨qfa,qel,qe9,qew⟩
  qg3:=PySem.W.mg_of X G qgo
  qjb:=⟨qe2,U6,qe8,qeP⟩
  qbE:=Wo
  Qg:=KC
  Xh:=Vl
  Ut:=Yn
  qbx:=We
  GK:=W6
  qbt:=⟨qfV,qfF,qgb,qga⟩
  qjV:=PySem.W.mg_of X G qg8
  qj9:=⟨qfO,qfs,qft⟩
  qe:=⟨qdp,qdB,qc0,qdj⟩
  qij:=PySem.W.mg_of X G qej
  qir:=⟨qc3,GX,qcU,qdk⟩
  QX:=Jh
  za:=Vg
  vg:=Vo
  qF:=⟨qdD,qdl,qdG,qdq⟩
  qiD:=PySem.W.mg_of X G qev
  qip:=⟨qdo,Kr,qdb,qdr⟩
  jt:=J5
  wB:=QT
  jZ:=Yy
  WD:=PySem.W.mg_of X G qdi
  qfe:=PySem.W.mg_of X G X4
  qfl:=⟨WM,Uj,GJ,Xa,Xk,Ks,qgy Q0 Zt WM⟩
  qff:=Kw
  qfn:=⟨KD,Jv,Xj,Xl⟩
  qgq:=PySem.W.mg_of X G qaN
  qf0:=⟨Yl,qaV,XN,XR,Uw,Ud,qgy Q0 Zt Yl⟩
  qf3:=Ua
  qfz:=⟨Uz,JP,XM,qac⟩
  J4:=PySem.W.mg_of X G qaR
  Wr:=⟨Ym,qaJ,qag,qab,Ur,qai,qgy Q0 Zt Ym⟩
  qfv:=UW
  Wa:=⟨UJ,JK,U9,Us⟩
  qfg:=PySem.W.mg_of X G U0
  qfm:=⟨WL,Uu,K9,Ka,Gz,Xb,qgy Q0 Zt WL⟩
  qfk:=G9
  qfo:=⟨Kl,Jx,KQ,K8⟩
  KH:=⟨qce,⟨_,qca,qb8⟩,Vy⟩
  qcP:=Va
  qap:=ZX
  qa9:=Jk
  qbc:=Jz
  qaw:=ZW
  qfd:=Kd
  KR:=qak
  qbG:=PySem.W.mg_of X G qaT
  Yc:=qaU
  qal:=PySem.W.mg_of X G qbU
  Vs:=Ju
  qa5:=PySem.W.mg_of X G Wt
  qco:=Ux
  qgn:=PySem.W.mg_of X G qaY
  qcw:=Vv
  qcE:=W4
  Xe:=⟨Yz,Vk,W5⟩
  qas:=ZS
  jJ:=⟨Jp,ZK,ZG⟩
  Yd:=yK
  V7:=⟨Qe,yL,yH⟩
  V3:=gh
  Yg:=⟨gJ,yZ,yW⟩
  GP:=Qp
  GZ:=⟨Zm,Qz,Qu⟩
  VP:=yU
  V5:=⟨gF,gB,gb⟩
  KZ:=Qv
  Xr:=⟨Zj,QD,Qw⟩
  qcL:=Vu
  qcm:=Wn
  qbe:=Jy
  qdW:=YF
  qfY:=Uq
  qee:=Yx
  qgi:=XX
  qfi:=Kv
  qek:=qcd
  qez:=PySem.W.mg_of X G qdI
  qdN:=YH
  qed:=YT
  ql:=⟨Km,YS,Yv⟩
  qck:=JZ
  wj:=⟨Vq,Wb,J7⟩
  qcD:=Ve
  Ql:=⟨Yt,Vx,W3⟩
  qcz:=Vj
  JF:=⟨Yr,Vd,Vi⟩
  VJ:=gj
  VL:=⟨gH,gw,gq⟩
  V9:=yJ
  VN:=⟨gZ,gA,yE⟩
  Gs:=gY
  Q5:=⟨Qy,kY,g8⟩
  Wh:=vL
  Wl:=⟨vZ,vm,vh⟩
  JC:=wW
  JB:=⟨vo,wZ,wX⟩
  J3:=vA
  yX:=⟨yw,vC,vD⟩
  Xo:=QF
  jG:=⟨Zb,QC,Qx⟩
  yV:=vp
  Wc:=⟨vQ,vz,vM⟩
  Gg:=gK
  Gf:=⟨QR,kh,gG⟩
  qa4:=Jf
  qa8:=⟨J0,Jj,Jr⟩
  Xw:=Zf
  XH:=⟨ZF,Zi,Zn⟩
  XC:=Zr
  Xx:=⟨Z3,Zo,Zw⟩
  Gk:=kO
  Gx:=⟨QJ,gP,kW⟩
  KY:=QK
  GQ:=⟨Zu,QW,Qs⟩
  wA:=wY
  zQ:=⟨vy,w6,vd⟩
  Ye:=yN
  QS:=⟨gM,yQ,yR⟩
  Zd:=wD
  Q7:=⟨wL,wH,wC⟩
  WR:=ye
  wM:=⟨yM,yf,vR⟩
  YG:=J9
  qbz:=PySem.W.mg_of X G Vp
  qd1:=YC
  Gj:=Qa
  Zq:=⟨QL,km,kE⟩
  kI:=yp
  j4:=⟨yS,yq,vP⟩
  JW:=vG
  yD:=⟨vW,vJ,vK⟩
  JS:=vB
  Wv:=⟨v8,vH,vI⟩
  Yb:=yO
  VG:=⟨gU,gn,yI⟩
  WQ:=v9
  WY:=⟨gm,yc,yl⟩
  WT:=yj
  jD:=⟨gf,yr,yu⟩
  qbH:=JL
  Y6:=⟨W8,JX,JM⟩
  qau:=Z1
  Wi:=⟨Jo,ZZ,ZQ⟩
  qeo:=qbO
  qhB:=PySem.W.mg_of X G qc8
  WP:=YK
  Um:=PySem.W.mg_of X G GF
  Kf:=Vm
  qcv:=PySem.W.mg_of X G YZ
  qgP:=qbi
  qmr:=PySem.W.mg_of X G qcK
  qd4:=⟨_,PySem.W.mg_of X G Y9⟩
  Wy:=⟨_,PySem.W.mg_of X G vq⟩
  qha:=⟨_,PySem.W.mg_of X G qbT⟩
  qji:=⟨_,PySem.W.mg_of X G qeK⟩
  qlN:=⟨_,PySem.W.mg_of X G qg9⟩
  qjD:=⟨_,PySem.W.mg_of X G qeT⟩
  qim:=⟨_,PySem.W.mg_of X G qdK⟩
  qb5:=⟨_,PySem.W.mg_of X G U3⟩
  qcB:=⟨_,PySem.W.mg_of X G qdw⟩
  qiw:=⟨_,PySem.W.mg_of X G qds⟩
  qgc:=⟨_,PySem.W.mg_of X G U8⟩
  qfK:=⟨_,PySem.W.mg_of X G X5⟩
  qdV:=⟨_,PySem.W.mg_of X G YL⟩
  qbg:=⟨_,PySem.W.mg_of X G Jw⟩
  qa7:=⟨_,PySem.W.mg_of X G Jq⟩
  qcQ:=⟨_,PySem.W.mg_of X G W7⟩
  qcH:=⟨_,PySem.W.mg_of X G W2⟩
  qjF:=⟨_,PySem.W.mg_of X G qeN⟩
  qgK:=PySem.W.mg_of X G qaL
  qio:=PySem.W.mg_of X G qdz
  qi2:=PySem.W.mg_of X G qem
  ZV:=PySem.W.mg_of X G QV
  GD:=PySem.W.mg_of X G Uh
  qhx:=PySem.W.mg_of X G qb7
  Ke:=PySem.W.mg_none_of X G qhQ
  qkp:=PySem.W.mg_none_of X G qib
  qm6:=PySem.W.mg_none_of X G qhP
  qm7:=PySem.W.mg_none_of X G qhO
  qll:=PySem.W.mg_none_of X G qgV
  qhl:=PySem.W.mg_none_of X G qcl
  qm1:=PySem.W.mg_none_of X G qh4
  Zc:=PySem.W.mg_none_of X G UV
 }
 have I:Txi K { qi:=qi,zy:=zy,zR:=zR,zB:=zB,zu:=zu,qW:=qW,qC:=qC,z7:=z7,zH:=zH,zE:=zE,qK:=qK,zN:=zN,qx:=qx,zr:=zr,qJ:=qJ,z6:=z6,qg:=qg,qt:=qt,jo:=jo,zX:=zX,z8:=z8,z9:=z9,zZ:=zZ,jF:=jF,jQ:=jQ,jY:=jY,jj:=jj,jP:=jP,jk:=jk,jn:=jn,zY:=zY,zc:=zc,zp:=zp,zK:=zK,zf:=zf,zM:=zM,jr:=jr,je:=je,jb:=jb,jx:=jx,jL:=jL,jw:=jw,jM:=jM,jH:=jH,wu:=wu,jy:=jy,jA:=jA,jf:=jf,jl:=jl,jm:=jm,zg:=zg,zj:=zj,zA:=zA,qR:=qR,qN:=qN,qT:=qT,qI:=qI,qL:=qL,zx:=zx,jc:=jc,zU:=zU,zT:=zT,zq:=zq,zL:=zL,qp:=qp,qX:=qX,qu:=qu,qP:=qP,jq:=jq,jz:=jz,zz:=zz,qM:=qM,qQ:=qQ,qU:=qU,zm:=zm,qZ:=qZ,qY:=qY,jg:=jg,zW:=zW,wk:=wk,jE:=jE,ju:=ju,wO:=wO,jX:=jX,wQ:=wQ,Q6:=Q6,jd:=jd,wg:=wg,wy:=wy:Adr }:=⟨⟨qdn,qfH,qfB,yx⟩,⟨qfw,qfH,qfB,Wu⟩,⟨qc2,qfH,qfB,Jb⟩,⟨qgf,qfH,qfB,qao⟩,⟨qeX,qfH,qfB,qbp⟩,⟨qfy,qfH,qfB,qfZ⟩,qd7,gk qef yx QM qex,qd7,gk qcn yx QM qbK,gk qbR Wu Gn qbP,qd7,gk qeC yx QM qe6,gk qeW Wu Gn qey,gk qe3 Jb V4 qeO,qd7,gk qde yx QM qcV,gk qcX Wu Gn qc1,gk qdg Jb V4 qdL,gk qc9 qao qcT qdd,qd7,gk qeY yx QM qeM,gk qep Wu Gn qeE,gk qeU Jb V4 qeJ,gk qeB qao qcT qeI,gk qe5 qbp qeD qeR⟩
 have B:Tbl P w K { qi:=qi,zy:=zy,zR:=zR,zB:=zB,zu:=zu,qW:=qW,qC:=qC,z7:=z7,zH:=zH,zE:=zE,qK:=qK,zN:=zN,qx:=qx,zr:=zr,qJ:=qJ,z6:=z6,qg:=qg,qt:=qt,jo:=jo,zX:=zX,z8:=z8,z9:=z9,zZ:=zZ,jF:=jF,jQ:=jQ,jY:=jY,jj:=jj,jP:=jP,jk:=jk,jn:=jn,zY:=zY,zc:=zc,zp:=zp,zK:=zK,zf:=zf,zM:=zM,jr:=jr,je:=je,jb:=jb,jx:=jx,jL:=jL,jw:=jw,jM:=jM,jH:=jH,wu:=wu,jy:=jy,jA:=jA,jf:=jf,jl:=jl,jm:=jm,zg:=zg,zj:=zj,zA:=zA,qR:=qR,qN:=qN,qT:=qT,qI:=qI,qL:=qL,zx:=zx,jc:=jc,zU:=zU,zT:=zT,zq:=zq,zL:=zL,qp:=qp,qX:=qX,qu:=qu,qP:=qP,jq:=jq,jz:=jz,zz:=zz,qM:=qM,qQ:=qQ,qU:=qU,zm:=zm,qZ:=qZ,qY:=qY,jg:=jg,zW:=zW,wk:=wk,jE:=jE,ju:=ju,wO:=wO,jX:=jX,wQ:=wQ,Q6:=Q6,jd:=jd,wg:=wg,wy:=wy:Adr }:=⟨qdt,qaS,qbv,qeL,QB,Ug⟩
 obtain ⟨fd,F,bi⟩:=qbi
 obtain ⟨oc,od,kV,doc,pm,an,cdv,ct,osl,rfl,lk,hcd⟩:=id F.ex
 exact ⟨_,fun s us hu=>match us,hu with | [_],_=>.of_eq rfl,fun base _ _=>qgP T I B F⟩
end Pg
namespace Pg
open PySem PySem.Spec PyProof.Rows L2 Xc
open Sc25 (Bytes)
theorem qlk (t:List Int):PySc25.check t=[dueN (Sc25Neutral.nats t)]:=by
 unfold PySc25.check Sc25Neutral.f Sc25Neutral.callOf
 show (Sc25.calls (.check (Sc25Neutral.nats t) ((t.length:Nat):Int))).v :: _=_
 have hl:(Sc25Neutral.nats t).length=t.length:=by unfold Sc25Neutral.nats; rw [List.length_map]
 have one:∀ v:Int,((Sc25.ok v).v :: if (Sc25.ok v).v < 0 then [] else Sc25Neutral.ints ((Sc25.ok v).l++(Sc25.ok v).b))=[v]:=fun v=>by
  show v :: (if v < 0 then [] else [])=[v]
  split <;> rfl
 have e:Sc25.calls (.check (Sc25Neutral.nats t) ((t.length:Nat):Int))=Sc25.ok (dueN (Sc25Neutral.nats t)):=by
  unfold dueN
  rw [hl]
  show Sc25.answer _ _ true _=_
  unfold Sc25.answer Sc25.inRange
  by_cases h:65536 < t.length
  ·rw [if_pos h,decide_eq_false (show ¬ ((t.length:Nat):Int)<=65536 by omega)]
   simp
  ·rw [if_neg h,decide_eq_true (show ((t.length:Nat):Int)<=65536 by omega),decide_eq_true (show (0:Int)<=((t.length:Nat):Int) by omega)]
   simp only [Bool.and_self,Bool.true_eq_false,if_false]
   cases Sc25.taken (Sc25Neutral.nats t) with
   | bad v=>rfl
   | good P=>rfl
 rw [e]
 exact one _
theorem qlv {t:List Int} (h:t.all (fun n=>decide (0<=n/\n<=255))=true):((Sc25Neutral.nats t).map fun (c:Nat)=>V.int (c:Int))=t.map V.int/\∀ c ∈ Sc25Neutral.nats t,c<=255:=by
 have h:∀ n ∈ t,0<=n/\n<=255:=fun n hn=>of_decide_eq_true (List.all_eq_true.mp h n hn)
 unfold Sc25Neutral.nats
 refine ⟨?_,fun c hc=>?_⟩
 ·rw [List.map_map]
  refine List.map_congr_left fun n hn=>?_
  show V.int ((n.toNat:Nat):Int)=V.int n
  rw [Int.toNat_of_nonneg (h n hn).1]
 ·obtain ⟨n,hn,rfl⟩:=List.mem_map.mp hc
  have:=h n hn
  omega
end Pg
theorem PySem.W.Fast.tw2881940117504647086:True:=⟨⟩
theorem PySem.W.Fast.tw11138565368153218738:True:=⟨⟩
theorem PySem.W.Fast.tw16086540000813260016:True:=⟨⟩
theorem PySem.W.Fast.tw9468809214654293742:True:=⟨⟩
theorem PySem.W.Fast.tw8302447426286285133:True:=⟨⟩
theorem PySem.W.Fast.tw18201658457017138507:True:=⟨⟩
theorem PySem.W.Fast.tw7377968302316778948:True:=⟨⟩
theorem PySem.W.Fast.tw14071318833712119124:True:=⟨⟩
theorem PySem.W.Fast.tw2540753825034585171:True:=⟨⟩
theorem PySem.W.Fast.tw4954192039514790453:True:=⟨⟩
theorem PySem.W.Fast.tw10992957563297657214:True:=⟨⟩
theorem PySem.W.Fast.tw6927460881479703153:True:=⟨⟩
theorem PySem.W.Fast.tw16112050106686339965:True:=⟨⟩
theorem PySem.W.Fast.tw8460519071559634235:True:=⟨⟩
theorem PySem.W.Fast.tw10104468531993137195:True:=⟨⟩
theorem PySem.W.Fast.tw10108721225514427701:True:=⟨⟩
theorem PySem.W.Fast.tw6725480618713029842:True:=⟨⟩
theorem PySem.W.Fast.tw4663291857655265217:True:=⟨⟩
theorem PySem.W.Fast.tw8933003940109284604:True:=⟨⟩
theorem PySem.W.Fast.tw18316162246215933909:True:=⟨⟩
theorem PySem.W.Fast.tw5136467156104877014:True:=⟨⟩
theorem PySem.W.Fast.tw12883090186139350006:True:=⟨⟩
theorem PySem.W.Fast.tw13601756164134710148:True:=⟨⟩
theorem PySem.W.Fast.tw13967415807381987705:True:=⟨⟩
theorem PySem.W.Fast.tw14240110147996631323:True:=⟨⟩
theorem PySem.W.Fast.tw4705144142318444010:True:=⟨⟩
theorem PySem.W.Fast.tw5506137995122765354:True:=⟨⟩
theorem PySem.W.Fast.tw4924671790629032729:True:=⟨⟩
theorem PySem.W.Fast.tw16394353498931043676:True:=⟨⟩
theorem PySem.W.Fast.tw5865748777412144313:True:=⟨⟩
theorem PySem.W.Fast.tw7142120818494626369:True:=⟨⟩
theorem PySem.W.Fast.tw3375995407873253914:True:=⟨⟩
theorem PySem.W.Fast.tw16889648056597232983:True:=⟨⟩
theorem PySem.W.Fast.tw6469402803789432068:True:=⟨⟩
theorem PySem.W.Fast.tw13506656323662660724:True:=⟨⟩
theorem PySem.W.Fast.tw3057999922812419188:True:=⟨⟩
theorem PySem.W.Fast.tw7708507682347059065:True:=⟨⟩
theorem PySem.W.Fast.tw16455098316403556805:True:=⟨⟩
theorem PySem.W.Fast.tw10512528392531503582:True:=⟨⟩
theorem PySem.W.Fast.tw11990609461012472340:True:=⟨⟩
theorem PySem.W.Fast.tw16754756466797231657:True:=⟨⟩
theorem PySem.W.Fast.tw17833432838099157412:True:=⟨⟩
theorem PySem.W.Fast.tw10417519895475034648:True:=⟨⟩
theorem PySem.W.Fast.tw5321171000564760589:True:=⟨⟩
theorem PySem.W.Fast.tw542929451645854386:True:=⟨⟩
theorem PySem.W.Fast.tw845255608235438806:True:=⟨⟩
theorem PySem.W.Fast.tw1079489147622849276:True:=⟨⟩
theorem PySem.W.Fast.tw2204748199573265119:True:=⟨⟩
theorem PySem.W.Fast.tw7483647796367592951:True:=⟨⟩
theorem PySem.W.Fast.tw13913692537250096587:True:=⟨⟩
theorem PySem.W.Fast.tw9414901678143667763:True:=⟨⟩
theorem PySem.W.Fast.tw13255203527568956181:True:=⟨⟩
theorem PySem.W.Fast.tw18154664218839546782:True:=⟨⟩
theorem PySem.W.Fast.tw9497403451354175982:True:=⟨⟩
theorem PySem.W.Fast.tw15201412123035641553:True:=⟨⟩
theorem PySem.W.Fast.tw14093763478609851901:True:=⟨⟩
theorem PySem.W.Fast.tw5963193042375568423:True:=⟨⟩
theorem PySem.W.Fast.tw11006614799224600442:True:=⟨⟩
theorem PySem.W.Fast.tw6229082730648390745:True:=⟨⟩
theorem PySem.W.Fast.tw14089782891425304278:True:=⟨⟩
theorem PySem.W.Fast.tw16882851111050864912:True:=⟨⟩
theorem PySem.W.Fast.tw17285490437390874465:True:=⟨⟩
theorem PySem.W.Fast.tw8772520637805862757:True:=⟨⟩
theorem PySem.W.Fast.tw14984650949395699122:True:=⟨⟩
theorem PySem.W.Fast.tw3851621832929143972:True:=⟨⟩
theorem PySem.W.Fast.tw16876879659306497048:True:=⟨⟩
theorem PySem.W.Fast.tw3220835199484539962:True:=⟨⟩
theorem PySem.W.Fast.tw1159917826543503330:True:=⟨⟩
theorem PySem.W.Fast.tw4287430198839796580:True:=⟨⟩
theorem PySem.W.Fast.tw4625225516724142740:True:=⟨⟩
theorem PySem.W.Fast.tw10624429617032252309:True:=⟨⟩
theorem PySem.W.Fast.tw16671775240522163498:True:=⟨⟩
theorem PySem.W.Fast.tw4583355391090573632:True:=⟨⟩
theorem PySem.W.Fast.tw7650680242669559283:True:=⟨⟩
theorem PySem.W.Fast.tw6723484359388816881:True:=⟨⟩
theorem PySem.W.Fast.tw17900817432296174492:True:=⟨⟩
theorem PySem.W.Fast.tw6263090249900620925:True:=⟨⟩
theorem PySem.W.Fast.tw11202539979104598069:True:=⟨⟩
theorem PySem.W.Fast.tw15913899425451422651:True:=⟨⟩
theorem PySem.W.Fast.tw14160747077804139934:True:=⟨⟩
theorem PySem.W.Fast.tw16353850316140975793:True:=⟨⟩
theorem PySem.W.Fast.tw18266106404099318495:True:=⟨⟩
theorem PySem.W.Fast.tw881584065086571372:True:=⟨⟩
theorem PySem.W.Fast.tw17231307759698639095:True:=⟨⟩
theorem PySem.W.Fast.tw4075848810097542312:True:=⟨⟩
theorem PySem.W.Fast.tw6848022337250580734:True:=⟨⟩
theorem PySem.W.Fast.tw5772360632938811710:True:=⟨⟩
theorem PySem.W.Fast.tw11801815203013073355:True:=⟨⟩
theorem PySem.W.Fast.tw5787922595426870479:True:=⟨⟩
theorem PySem.W.Fast.tw6342384269442856948:True:=⟨⟩
theorem PySem.W.Fast.tw1348429985911927749:True:=⟨⟩
theorem PySem.W.Fast.tw9267008951982391588:True:=⟨⟩
theorem PySem.W.Fast.tw10962811515231867152:True:=⟨⟩
theorem PySem.W.Fast.tw15760563940978366997:True:=⟨⟩
theorem PySem.W.Fast.tw1820066397678046583:True:=⟨⟩
theorem PySem.W.Fast.tw13845848477929555139:True:=⟨⟩
theorem PySem.W.Fast.tw13205414654593992959:True:=⟨⟩
theorem PySem.W.Fast.tw12750923783470407526:True:=⟨⟩
theorem PySem.W.Fast.tw5168846613016814960:True:=⟨⟩
theorem PySem.W.Fast.tw17723031500952223061:True:=⟨⟩
theorem PySem.W.Fast.tw8687712405765540738:True:=⟨⟩
theorem PySem.W.Fast.tw6749509379957548608:True:=⟨⟩
theorem PySem.W.Fast.tw5836829640505202445:True:=⟨⟩
theorem PySem.W.Fast.tw9300272161590071946:True:=⟨⟩
theorem PySem.W.Fast.tw15754700032055510669:True:=⟨⟩
theorem PySem.W.Fast.tw3523615892798554067:True:=⟨⟩
theorem PySem.W.Fast.tw13782674209111552137:True:=⟨⟩
theorem PySem.W.Fast.tw11769076173358065290:True:=⟨⟩
theorem PySem.W.Fast.tw14819818613619059349:True:=⟨⟩
theorem PySem.W.Fast.tw8424097058362312544:True:=⟨⟩
theorem PySem.W.Fast.tw18253509424358880100:True:=⟨⟩
theorem PySem.W.Fast.tw12977137653467656612:True:=⟨⟩
theorem PySem.W.Fast.tw1637844949114994116:True:=⟨⟩
theorem PySem.W.Fast.tw13337348769467119300:True:=⟨⟩
theorem PySem.W.Fast.tw8531528205335748258:True:=⟨⟩
theorem PySem.W.Fast.tw15271583073471688460:True:=⟨⟩
theorem PySem.W.Fast.tw4562795646122418:True:=⟨⟩
theorem PySem.W.Fast.tw17532238496699551265:True:=⟨⟩
theorem PySem.W.Fast.tw13183231752382767121:True:=⟨⟩
theorem PySem.W.Fast.tw14733213593624831217:True:=⟨⟩
theorem PySem.W.Fast.tw175437420319445558:True:=⟨⟩
theorem PySem.W.Fast.tw17856554158461373173:True:=⟨⟩
theorem PySem.W.Fast.tw9495703374808161370:True:=⟨⟩
theorem PySem.W.Fast.tw12965043473605385578:True:=⟨⟩
theorem PySem.W.Fast.tw8566772066569840296:True:=⟨⟩
theorem PySem.W.Fast.tw16683552614268585791:True:=⟨⟩
theorem PySem.W.Fast.tw2298039065884866769:True:=⟨⟩
theorem PySem.W.Fast.tw6644034178383706337:True:=⟨⟩
theorem PySem.W.Fast.tw11961267334834135530:True:=⟨⟩
theorem PySem.W.Fast.tw5127253537439918724:True:=⟨⟩
theorem PySem.W.Fast.tw2583722045490628296:True:=⟨⟩
theorem PySem.W.Fast.tw15015840215810125448:True:=⟨⟩
theorem PySem.W.Fast.tw15845434256717621072:True:=⟨⟩
theorem PySem.W.Fast.tw10488114124833690021:True:=⟨⟩
theorem PySem.W.Fast.tw13780378605684639114:True:=⟨⟩
theorem PySem.W.Fast.tw16379915854502623631:True:=⟨⟩
theorem PySem.W.Fast.tw11246698278582970577:True:=⟨⟩
theorem PySem.W.Fast.tw6137721743912915318:True:=⟨⟩
theorem PySem.W.Fast.tw6577999091895025543:True:=⟨⟩
theorem PySem.W.Fast.tw11392103333638331351:True:=⟨⟩
theorem PySem.W.Fast.tw7836485686124295256:True:=⟨⟩
theorem PySem.W.Fast.tw2528576207981950701:True:=⟨⟩
theorem PySem.W.Fast.tw7488123851982468369:True:=⟨⟩
theorem PySem.W.Fast.tw2689670262315657159:True:=⟨⟩
theorem PySem.W.Fast.tw14116747266121396368:True:=⟨⟩
theorem PySem.W.Fast.tw12873166965589308001:True:=⟨⟩
theorem PySem.W.Fast.tw2202186165594413272:True:=⟨⟩
theorem PySem.W.Fast.tw9645654138474605732:True:=⟨⟩
theorem PySem.W.Fast.tw8982898448086369484:True:=⟨⟩
theorem PySem.W.Fast.tw17384607701481304794:True:=⟨⟩
theorem PySem.W.Fast.tw7150521564787922872:True:=⟨⟩
theorem PySem.W.Fast.tw9451609193814044246:True:=⟨⟩
theorem PySem.W.Fast.tw10543940506150467299:True:=⟨⟩
theorem PySem.W.Fast.tw1533726115250971299:True:=⟨⟩
theorem PySem.W.Fast.tw9044635017941782542:True:=⟨⟩
theorem PySem.W.Fast.tw2893645739926907130:True:=⟨⟩
theorem PySem.W.Fast.tw3441332611725342682:True:=⟨⟩
theorem PySem.W.Fast.tw13494022816892347121:True:=⟨⟩
theorem PySem.W.Fast.tw15835872022436859519:True:=⟨⟩
theorem PySem.W.Fast.tw12802005401503973706:True:=⟨⟩
theorem PySem.W.Fast.tw8814520111763758343:True:=⟨⟩
theorem PySem.W.Fast.tw9347644178324615240:True:=⟨⟩
theorem PySem.W.Fast.tw8054612089767542296:True:=⟨⟩
theorem PySem.W.Fast.tw8536446392843628831:True:=⟨⟩
theorem PySem.W.Fast.tw5977881450983378181:True:=⟨⟩
theorem PySem.W.Fast.tw6807424997788646814:True:=⟨⟩
theorem PySem.W.Fast.tw18297236479805483192:True:=⟨⟩
theorem PySem.W.Fast.tw10026190569343968065:True:=⟨⟩
theorem PySem.W.Fast.tw460720896044461139:True:=⟨⟩
theorem PySem.W.Fast.tw3453239279887573779:True:=⟨⟩
theorem PySem.W.Fast.tw13227302034544747695:True:=⟨⟩
theorem PySem.W.Fast.tw9185268253016060849:True:=⟨⟩
theorem PySem.W.Fast.tw3570303616336222503:True:=⟨⟩
theorem PySem.W.Fast.tw4393207252315791495:True:=⟨⟩
theorem PySem.W.Fast.tw17857604191868462967:True:=⟨⟩
theorem PySem.W.Fast.tw14356076284029342945:True:=⟨⟩
open PySem PySem.Spec PySem.W PyProof.Rows
set_option maxRecDepth 100000 in
set_option maxHeartbeats 0 in
theorem PySem.Challenge.cw_undorundesk_s01_check_holds : PySem.Challenge.rw_undorundesk_s01_check.Holds := by
 w_on; k_headS; (case hw=>exact ⟨[.list []],by decide +kernel,by decide +kernel⟩)
 k_fillS
 refine L2.walk_specK (r:=PySem.Challenge.rw_undorundesk_s01_check) (k:=142) (CX:=L2.CX0) (ps:=["text"]) (sp:=Pg.qh8) (by decide +kernel) rfl rfl ⟨rfl,by decide,by decide⟩ (fun w h Y=>PySem.W.kIn_of Y) ?F ?S (fun _ _ _ _ z=>z)
 case F =>
  intro w mg fa h Y KX G hmg
  refine' Pg.qon KX G hmg ?qdi ?X4 ?qaN ?qaR ?U0 ?qfP ?qdA ?qdJ ?qcq ?qaZ ?qeq ?qg7 ?qen ?qgS ?qgo ?qg8 ?qej ?qev ?qcg ?Jv ?JP ?JK ?Jx ?UL ?qaT ?qbU ?Wt ?qaY ?Y5 ?Yz ?Jp ?Qe ?gJ ?Zm ?gF ?Zj ?Ge ?Vc ?Wg ?Ku ?qaX ?Xm ?qa0 ?U6 ?qdI ?GX ?Km ?Vq ?Yt ?Yr ?gH ?gZ ?Qy ?vZ ?vo ?yw ?Zb ?vQ ?QR ?J0 ?ZF ?Z3 ?QJ ?Zu ?vy ?gM ?wL ?yM ?Vp ?Kr ?QL ?yS ?vW ?v8 ?gU ?gm ?gf ?W8 ?Jo ?qc8 ?GF ?YZ ?qcK ?qes ?qeF ?qeh ?qei ?qeH ?qeu ?qeA ?Xi ?Yp ?YQ ?Jg ?qbN ?qbA ?qcc ?qb6 ?qcf ?qbB ?qbI ?W9 ?Q4 ?qcs ?qb0 ?qb4 ?qb1 ?qbJ ?qbY ?qbu ?vU ?Qc ?Vw ?qaM ?qaD ?qa2 ?qaI ?qaW ?qaG ?qaP ?Ww ?ZL ?Ws ?ZJ ?U4 ?Uk ?XS ?qad ?qaf ?X7 ?UG ?Ji ?ym ?Z2 ?qdv ?qdF ?qc4 ?qdy ?qdx ?qdh ?qdu ?ZR ?YB ?Qo ?qfR ?qfC ?qf2 ?qfX ?qf9 ?qfL ?qf4 ?qah ?Xp ?qc7 ?qdf ?qcZ ?qcY ?qdm ?qda ?qdH ?YX ?Je ?Wz ?Vb ?JQ ?Js ?Wq ?qf1 ?qfG ?qf5 ?qfr ?qgg ?qfT ?qgm ?XQ ?Jt ?YM ?qfa ?qel ?qe9 ?qew ?qe2 ?qe8 ?qeP ?Wo ?KC ?Vl ?Yn ?We ?W6 ?qfV ?qfF ?qgb ?qga ?qfO ?qfs ?qft ?qdp ?qdB ?qc0 ?qdj ?qc3 ?qcU ?qdk ?Jh ?Vg ?Vo ?qdD ?qdl ?qdG ?qdq ?qdo ?qdb ?qdr ?J5 ?QT ?Yy ?Q0 ?Zt ?WM ?Uj ?GJ ?Xa ?Xk ?Ks ?qcA ?Xl ?Xj ?Kw ?KD ?Yl ?qaV ?XN ?XR ?Uw ?Ud ?qdU ?qac ?XM ?Ua ?Uz ?Ym ?qaJ ?qag ?qab ?Ur ?qai ?qd2 ?Us ?U9 ?UW ?UJ ?WL ?Uu ?K9 ?Ka ?Gz ?Xb ?qcx ?K8 ?KQ ?G9 ?Kl ?qce ?qca ?qb8 ?Va ?Vy ?ZX ?Xg ?Jk ?Xv ?Jz ?Xy ?ZW ?Kz ?Kd ?qcy ?qak ?qdS ?qaU ?qfj ?Ju ?Xz ?Ux ?qdX ?Vv ?qbd ?W4 ?W5 ?Vk ?ZS ?ZG ?ZK ?yK ?yH ?yL ?gh ?yW ?yZ ?Qp ?Qu ?Qz ?yU ?gb ?gB ?Qv ?Qw ?QD ?Vu ?qa3 ?Wn ?qat ?Jy ?XF ?YF ?qbS ?Uq ?qdY ?Yx ?qbV ?XX ?qdZ ?Kv ?qcG ?qcd ?qgj ?YH ?qbZ ?YT ?Yv ?YS ?JZ ?J7 ?Wb ?Ve ?W3 ?Vx ?Vj ?Vi ?Vd ?gj ?gq ?gw ?yJ ?yE ?gA ?gY ?g8 ?kY ?vL ?vh ?vm ?wW ?wX ?wZ ?vA ?vD ?vC ?QF ?Qx ?QC ?vp ?vM ?vz ?gK ?gG ?kh ?Jf ?Jr ?Jj ?Zf ?Zn ?Zi ?Zr ?Zw ?Zo ?kO ?kW ?gP ?QK ?Qs ?QW ?wY ?vd ?w6 ?yN ?yR ?yQ ?wD ?wC ?wH ?ye ?vR ?yf ?J9 ?qav ?YC ?qbC ?Qa ?kE ?km ?yp ?vP ?yq ?vG ?vK ?vJ ?vB ?vI ?vH ?yO ?yI ?gn ?v9 ?yl ?yc ?yj ?yu ?yr ?JL ?JM ?JX ?Z1 ?ZQ ?ZZ ?qbO ?qfM ?YK ?qcj ?Vm ?qbb ?qbi ?qhb ?Y9 ?vq ?qbT ?qeK ?qg9 ?qeT ?qdK ?U3 ?qdw ?qds ?U8 ?X5 ?YL ?Jw ?Jq ?W7 ?W2 ?qeN ?qaL ?qdz ?qem ?QV ?Uh ?qb7 ?qhQ ?qib ?qhP ?qhO ?qgV ?qcl ?qh4 ?UV ?qdn ?yx ?QM ?qfw ?Wu ?Gn ?qc2 ?Jb ?V4 ?qgf ?qao ?qcT ?qeX ?qbp ?qeD ?qfy ?qfZ ?qiH ?qfH ?qfB ?qex ?qef ?qbK ?qcn ?qbP ?qbR ?qe6 ?qeC ?qey ?qeW ?qeO ?qe3 ?qcV ?qde ?qc1 ?qcX ?qdL ?qdg ?qdd ?qc9 ?qeM ?qeY ?qeE ?qep ?qeJ ?qeU ?qeI ?qeB ?qeR ?qe5 ?qdt ?qaS ?qbv ?qeL ?QB ?Ug
  (case qdi | X4 | qaN | qaR | U0 | qfP | qdA | qdJ | qcq | qaZ | qeq | qg7 | qen | qgS | qgo | qg8 | qej | qev | qcg | Jv | JP | JK | Jx | UL | qaT | qbU | Wt | qaY | Y5 | Yz | Jp | Qe | gJ | Zm | gF | Zj | Ge | Vc | Wg | Ku | qaX | Xm | qa0 | U6 | qdI | GX | Km | Vq | Yt | Yr | gH | gZ | Qy | vZ | vo | yw | Zb | vQ | QR | J0 | ZF | Z3 | QJ | Zu | vy | gM | wL | yM | Vp | Kr | QL | yS | vW | v8 | gU | gm | gf | W8 | Jo | qc8 | GF | YZ | qcK | qes | qeF | qeh | qei | qeH | qeu | qeA | Xi | Yp | YQ | Jg | qbN | qbA | qcc | qb6 | qcf | qbB | qbI | W9 | Q4 | qcs | qb0 | qb4 | qb1 | qbJ | qbY | qbu | vU | Qc | Vw | qaM | qaD | qa2 | qaI | qaW | qaG | qaP | Ww | ZL | Ws | ZJ | U4 | Uk | XS | qad | qaf | X7 | UG | Ji | ym | Z2 | qdv | qdF | qc4 | qdy | qdx | qdh | qdu | ZR | YB | Qo | qfR | qfC | qf2 | qfX | qf9 | qfL | qf4 | qah | Xp | qc7 | qdf | qcZ | qcY | qdm | qda | qdH | YX | Je | Wz | Vb | JQ | Js | Wq | qf1 | qfG | qf5 | qfr | qgg | qfT | qgm | XQ | Jt | YM | qfa | qel | qe9 | qew | qe2 | qe8 | qeP | Wo | KC | Vl | Yn | We | W6 | qfV | qfF | qgb | qga | qfO | qfs | qft | qdp | qdB | qc0 | qdj | qc3 | qcU | qdk | Jh | Vg | Vo | qdD | qdl | qdG | qdq | qdo | qdb | qdr | J5 | QT | Yy | Q0 | Zt | WM | Uj | GJ | Xa | Xk | Ks | qcA | Xl | Yl | qaV | XN | XR | Uw | Ud | qdU | qac | Ym | qaJ | qag | qab | Ur | qai | qd2 | Us | WL | Uu | K9 | Ka | Gz | Xb | qcx | K8 | qce | qca | qb8 | Vy | Xg | Xv | Xy | Kz | qcy | qdS | qfj | Xz | qdX | qbd | W5 | Vk | ZG | ZK | yH | yL | yW | yZ | Qu | Qz | gb | gB | Qw | QD | qa3 | qat | XF | qbS | qdY | qbV | qdZ | qcG | qgj | qbZ | Yv | YS | J7 | Wb | W3 | Vx | Vi | Vd | gq | gw | yE | gA | g8 | kY | vh | vm | wX | wZ | vD | vC | Qx | QC | vM | vz | gG | kh | Jr | Jj | Zn | Zi | Zw | Zo | kW | gP | Qs | QW | vd | w6 | yR | yQ | wC | wH | vR | yf | qav | qbC | kE | km | vP | yq | vK | vJ | vI | vH | yI | gn | yl | yc | yu | yr | JM | JX | ZQ | ZZ | qfM | qcj | qbb | qhb | Y9 | vq | qbT | qeK | qg9 | qeT | qdK | U3 | qdw | qds | U8 | X5 | YL | Jw | Jq | W7 | W2 | qeN | qaL | qdz | qem | QV | Uh | qb7 | qhQ | qib | qhP | qhO | qgV | qcl | qh4 | UV | qdn | yx | QM | qfw | Wu | Gn | qc2 | Jb | V4 | qgf | qao | qcT | qeX | qbp | qeD | qfy | qfZ | qiH | qfH | qfB | qex | qbK | qbP | qe6 | qey | qeO | qcV | qc1 | qdL | qdd | qeM | qeE | qeJ | qeI | qeR=>k_is)
  (case Xj | XM | U9 | KQ=>exact Pg.qoe (by k_is) rfl)
  (case Kw | Ua | UW | G9=>exact Pg.qnL (by k_is) (by rfl) (by decide +kernel) (by k_is) (by k_is))
  (case KD | Uz | UJ | Kl=>exact Pg.qnS (by k_is) ⟨by decide +kernel,by decide +kernel,by decide +kernel,by decide +kernel⟩)
  (case Va | Jk | ZW | Vv | ZS | Qv | YH | YT | JZ | Ve | Vj | Zr | YC | yp | vB | yO | v9 | yj=>exact Pg.qe0 (by k_is) (by k_is) (by k_is) fun _ _ _ _ _ _=>Pg.alC fun _=>Pg.alC fun _=>Pg.al0 rfl)
  (case ZX | Jz | qak | qaU | Ju | Ux | W4 | yK | gh | Qp | yU | gj | yJ | gY | vL | wW | vA | QF | vp | gK | Jf | Zf | kO | QK | wY | yN | wD | ye | J9 | qbO | YK | Vm | qbi=>exact Pg.qe0 (by k_is) (by k_is) (by k_is) fun _ _ _ _ _ _=>Pg.alC fun _=>Pg.al0 rfl)
  (case Kd | Wn=>exact Pg.qe0 (by k_is) (by k_is) (by k_is) fun _ _ _ _ _ _=>Pg.alC fun _=>Pg.alC fun _=>Pg.alC fun _=>Pg.alC fun _=>Pg.alC fun _=>Pg.al0 rfl)
  (case Vu | Jy | YF | XX=>exact Pg.qe0 (by k_is) (by k_is) (by k_is) fun _ _ _ _ _ _=>Pg.alC fun _=>Pg.alC fun _=>Pg.alC fun _=>Pg.alC fun _=>Pg.al0 rfl)
  (case Uq | qcd | Qa | vG | JL | Z1=>exact Pg.qe0 (by k_is) (by k_is) (by k_is) fun _ _ _ _ _ _=>Pg.alC fun _=>Pg.alC fun _=>Pg.alC fun _=>Pg.al0 rfl)
  (case Yx=>exact Pg.qe0 (by k_is) (by k_is) (by k_is) fun _ _ _ _ _ _=>Pg.alC fun _=>Pg.alC fun _=>Pg.alC fun _=>Pg.alC fun _=>Pg.alC fun _=>Pg.alC fun _=>Pg.alC fun _=>Pg.alC fun _=>Pg.al0 rfl)
  (case Kv=>exact Pg.qe0 (by k_is) (by k_is) (by k_is) fun _ _ _ _ _ _=>Pg.alC fun _=>Pg.alC fun _=>Pg.alC fun _=>Pg.alC fun _=>Pg.alC fun _=>Pg.alC fun _=>Pg.alC fun _=>Pg.al0 rfl)
  (case qef | qcn | qbR | qeC | qeW | qe3 | qde | qcX | qdg | qc9 | qeY | qep | qeU | qeB | qe5=>decide)
  (case qdt | qaS | qbv=>exact fun H=>Pg.qn4 (by k_is) (by decide) (Pg.qj2 (by repeat (first | exact True.intro | refine ⟨⟨_,by rfl⟩,?_⟩))))
  (case qeL | QB | Ug=>exact Pg.qn6 (by k_is) (by decide) (by decide +kernel) (by repeat (first | exact True.intro | refine ⟨⟨by rfl,by rfl,⟨_,by rfl⟩⟩,?_⟩)))
 case S =>
  intro K H xs a hO hwi hask hx
  cases hx with
  | cons h1 h2 =>
   cases h2
   cases h1 with
   | lst hs ha =>
    have e:=L2.ints_dw a.1 _ ha
    subst e
    have q:((Codec.inLen 0 66000 a.1 && a.1.all (Codec.inInt 0 255)) && true)=true:=hwi
    rw [Bool.and_eq_true,Bool.and_eq_true] at q
    have q2:a.1.all (fun n=>decide (0<=n/\n<=255))=true:=by
     refine List.all_eq_true.mpr fun n hn=>?_
     have:=List.all_eq_true.mp q.1.2 n hn
     unfold Codec.inInt at this
     simpa using this
    obtain ⟨e1,e2⟩:=Pg.qlv q2
    refine ⟨_,Sc25Neutral.nats a.1,rfl,?_,e2,?_,fun H' p hp=>?_⟩
    ·unfold Pg.Qk
     rw [e1]
     exact hs
    ·unfold Sc25Neutral.nats
     rw [List.length_map]
     exact (Codec.inNat_iff.mp q.1.1).2
    ·show L2.Dw K H' (.ref p) (PySem.Challenge.rw_undorundesk_s01_check.ret.enc (PySc25.check a.1))
     rw [Pg.qlk]
     exact .lst (L2.SqL.of hp) (L2.dw_ints [_])
