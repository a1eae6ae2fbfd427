import PyProof.Rows.All
import Wide.All
import OpenK.AllK
import Wide.FinOn
import PyProof.EqAt
import PyProof.EqKinds
import PyProof.TupleCall
import KE.BitLaws
import KE.OsGo
import Open.SpecLaws
import KE.KSortTupG
import KE.KDictSum
import KE.KSortKeySt
import KE.KLam
import KE.KNestM
import PyProof.ZipIter
import KE.KItemsList
import PyProof.FString
import KE.KIntText
import PySem.Challenge.RW_piecebook_s01_answers
set_option Elab.async false
set_option linter.all false
set_option maxRecDepth 100000
namespace L2
open PySem PySem.Spec PyProof.Rows
abbrev Key:=Sum Int Str
def keyIs:Key→Value→Bool
 | .inl k,v=>Value.isInt k v
 | .inr x,v=>Value.isStrOf x v
def keyH (w:World):Key→Int
 | .inl k=>hashInt k
 | .inr x=>hashStr w x
theorem keyIs_shape:∀ {k:Key}{v:Value},keyIs k v=true→(∃ i t,k=Sum.inl i∧v=Value.int i t)∨(∃ x t,k=Sum.inr x∧v=Value.str x t)
 | .inl i,v,h=>by
  obtain ⟨t,e⟩:=Value.isInt_shape (k:=i) (v:=v) h
  exact .inl ⟨i,t,rfl,e⟩
 | .inr x,v,h=>by
  obtain ⟨t,e⟩:=Value.isStrOf_shape (x:=x) (v:=v) h
  exact .inr ⟨x,t,rfl,e⟩
theorem keyIs_int (i:Int) (t:Tok):keyIs (.inl i) (.int i t)=true:=by simp [keyIs,Value.isInt]
theorem keyIs_str (x:Str) (t:Tok):keyIs (.inr x) (.str x t)=true:=by simp [keyIs,Value.isStrOf]
theorem key_ll (a b:Int):decide ((Sum.inl a:Key)=Sum.inl b)=(a == b):=by
 by_cases e:a=b
 ·subst e;simp
 ·have h:¬ (Sum.inl a:Key)=Sum.inl b:=fun q=>e (Sum.inl.inj q)
  rw [decide_eq_false h]
  exact (beq_eq_false_iff_ne.mpr e).symm
theorem key_rr (a b:Str):decide ((Sum.inr a:Key)=Sum.inr b)=decide (a=b):=by
 by_cases e:a=b
 ·subst e;simp
 ·have h:¬ (Sum.inr a:Key)=Sum.inr b:=fun q=>e (Sum.inr.inj q)
  rw [decide_eq_false h,decide_eq_false e]
theorem key_lr (a:Int) (b:Str):decide ((Sum.inl a:Key)=Sum.inr b)=false:=decide_eq_false (fun q=>nomatch q)
theorem key_rl (a:Str) (b:Int):decide ((Sum.inr a:Key)=Sum.inl b)=false:=decide_eq_false (fun q=>nomatch q)
def mixKind (prog:Program) (w:World):PySem.KeyKind prog w Key where
 is:=keyIs
 hash:=keyH w
 inj:=fun v a b ha hb=>by
  rcases keyIs_shape ha with ⟨i,t,rfl,rfl⟩ | ⟨x,t,rfl,rfl⟩
  ·rcases keyIs_shape hb with ⟨j,u,rfl,e⟩ | ⟨y,u,rfl,e⟩
   ·injection e with e1 _;rw [e1]
   ·exact nomatch e
  ·rcases keyIs_shape hb with ⟨j,u,rfl,e⟩ | ⟨y,u,rfl,e⟩
   ·exact nomatch e
   ·injection e with e1 _;rw [e1]
 byValue:=fun k v h=>by
  rcases keyIs_shape h with ⟨i,t,rfl,rfl⟩ | ⟨x,t,rfl,rfl⟩<;>rfl
 pyHash:=fun hv h=>by
  rcases keyIs_shape hv with ⟨i,t,rfl,rfl⟩ | ⟨x,t,rfl,rfl⟩
  ·exact wpAny_pyHash_int h
  ·exact wpAny_pyHash_str h
 eqBool:=fun hu hv h=>by
  rcases keyIs_shape hu with ⟨i,t,rfl,rfl⟩ | ⟨x,t,rfl,rfl⟩
  ·rcases keyIs_shape hv with ⟨j,u,rfl,rfl⟩ | ⟨y,u,rfl,rfl⟩
   ·rw [key_ll] at h;exact wpAny_eqBool_int h
   ·rw [key_lr] at h;exact SeqAt.EqAt.int_str i t y u _ _ _ _ h
  ·rcases keyIs_shape hv with ⟨j,u,rfl,rfl⟩ | ⟨y,u,rfl,rfl⟩
   ·rw [key_rl] at h;exact SeqAt.EqAt.str_int x t j u _ _ _ _ h
   ·rw [key_rr] at h;exact wpAny_eqBool_str h
 «strs»:=fun k x t v h=>by
  rcases keyIs_shape h with ⟨i,u,rfl,e⟩ | ⟨y,u,rfl,e⟩
  ·exact nomatch e
  ·injection e with e1 _
   subst e1
   cases v<;>rfl
theorem mixKind_int (prog:Program) (w:World) (i:Int) (t:Tok):(mixKind prog w).is (.inl i) (.int i t)=true:=keyIs_int i t
theorem mixKind_str (prog:Program) (w:World) (x:Str) (t:Tok):(mixKind prog w).is (.inr x) (.str x t)=true:=keyIs_str x t
end L2
namespace L2
open PySem PySem.Spec PyProof.Rows
inductive V where
 | non | bl (b:Bool) | int (i:Int) | str (x:Str) | byt (b:Array UInt8) | flt (b:UInt64) | ref (a:Addr) | ty (n:String)
 deriving DecidableEq
def RelV:V→Value→Prop
 | .non,u=>u=Value.none
 | .bl b,u=>u=Value.bool b
 | .int i,u=>∃ t,u=Value.int i t
 | .str x,u=>∃ t,u=Value.str x t
 | .byt b,u=>∃ t,u=Value.bytes b t
 | .flt b,u=>∃ t,u=Value.float b t
 | .ref a,u=>u=Value.ref a
 | .ty n,u=>u=Value.type n
abbrev Vals:List V→List Value→Prop:=Paired RelV
theorem Vals.length {xs:List V}{us:List Value} (r:Vals xs us):xs.length=us.length:=Paired.length r
theorem Vals.get:∀ {xs:List V}{us:List Value}{i:Nat}{x:V},Vals xs us→xs[i]?=some x→∃ u,us[i]?=some u∧RelV x u
 | _,_,_,_,.nil,e=>by simp at e
 | _,_,0,_,.cons r _,e=>by simp at e;subst e;exact ⟨_,rfl,r⟩
 | _,_,i+1,x,.cons _ t,e=>by
  obtain ⟨u,h1,h2⟩:=Vals.get (i:=i) (x:=x) t (by simpa using e)
  exact ⟨u,by simpa using h1,h2⟩
theorem Vals.set {x:V}{u:Value} (r:RelV x u):∀ {xs:List V}{us:List Value} (i:Nat),Vals xs us→Vals (xs.set i x) (us.set i u)
 | _,_,_,.nil=>.nil
 | _,_,0,.cons _ t=>.cons r t
 | _,_,i+1,.cons q t=>.cons q (Vals.set r i t)
theorem Vals.append:∀ {xs ys:List V}{us ws:List Value},Vals xs us→Vals ys ws→Vals (xs++ys) (us++ws)
 | _,_,_,_,.nil,s=>s
 | _,_,_,_,.cons r t,s=>.cons r (Vals.append t s)
theorem Vals.take:∀ {xs:List V}{us:List Value} (n:Nat),Vals xs us→Vals (xs.take n) (us.take n)
 | _,_,0,_=>.nil
 | _,_,_+1,.nil=>.nil
 | _,_,n+1,.cons r t=>.cons r (Vals.take n t)
theorem Vals.drop:∀ {xs:List V}{us:List Value} (n:Nat),Vals xs us→Vals (xs.drop n) (us.drop n)
 | _,_,0,r=>r
 | _,_,_+1,.nil=>.nil
 | _,_,n+1,.cons _ t=>Vals.drop n t
def RelO:Option V→Option Value→Prop
 | some v,some u=>RelV v u
 | none,none=>True
 | _,_=>False
def KV {κ:Type}:List (κ × V)→List (κ × Value)→Prop:=Paired fun (p:κ × V) (q:κ × Value)=>p.1=q.1∧RelV p.2 q.2
def kV:Key→V
 | .inl i=>.int i
 | .inr x=>.str x
inductive HO where
 /-- a list -/
 | lst (xs:List V)
 /-- a tuple (never changes) -/
 | tup (xs:List V)
 /-- a dict whose keys are ints and texts;one whose keys are tuples of ints and texts (the empty one is both) -/
 | dK (kvs:List (Key × V)) | dT (kvs:List (List Key × V))
 /-- a set of ints: its members,its size -/
 | set (S:Int→Bool) (n:Nat)
 /-- an instance of the class at C,its dict at dx,its attributes -/
 | ins (C dx:Addr) (fs:List (Str × V))
 /-- the dict of the instance at x -/
 | own (x:Addr)
 /-- the dict of an exception -/
 | xd (fs:List (Str × V))
 /-- a bound method,f of x -/
 | met (f x:Addr)
 /-- a range object lo,lo+1,.. below hi -/
 | rng (lo hi:Int)
 /-- a thing that is known to the object (the script;a dict while a loop walks it): read,never written while it is so -/
 | frz (o:Obj) (u:HO)
 /-- a code object's table -/
 | tbl (ps:Array Value)
 /-- any other thing,by what is true of its one object (a def of one's own: SetO a S n:=HO.ext fun h=>..) -/
 | ext (φ:Heap→Prop)
abbrev Hp:=Addr→Option HO
def upd (H:Hp) (a:Addr) (o:HO):Hp:=fun b=>if b=a then some o else H b
theorem upd_same {H:Hp}{a:Addr}{o:HO}:upd H a o a=some o:=by unfold upd;rw [if_pos rfl]
theorem upd_ne {H:Hp}{a b:Addr}{o:HO} (h:b≠a):upd H a o b=H b:=by unfold upd;rw [if_neg h]
theorem ne_of {H:Hp}{a b:Addr}{o u:HO} (h:H a=some o) (h':H b=some u) (d:o≠u):a≠b:=by
 intro e;subst e;rw [h] at h';exact d (Option.some.inj h')
theorem ne_of_none {H:Hp}{a b:Addr}{o:HO} (h:H a=some o) (h':H b=none):a≠b:=by
 intro e;subst e;rw [h] at h';cases h'
section
variable (P:Program) (w:World)
def ObjOk (H:Hp) (h:Heap) (a:Addr):HO→Prop
 | .lst xs=>xs.length≤sizeLine∧∃ (its:List Value) (n:Nat),Vals xs its∧h.get? a=some { cls:=.type "list",data:=.seq its.toArray n }
 | .tup xs=>xs.length≤sizeLine∧∃ its:List Value,Vals xs its∧IsTup h a its.toArray
 | .dK kvs=>kvs.length≤sizeLine∧(a == sysModules)=false∧∃ vs,KV kvs vs∧h.DictOf (mixKind P w) a vs
 | .dT kvs=>kvs.length≤sizeLine∧(a == sysModules)=false∧∃ xs:List (List Key × Addr × Value),
   Paired (fun (p:List Key × V) (q:List Key × Addr × Value)=>p.1=q.1∧H q.2.1=some (.tup (p.1.map kV))∧RelV p.2 q.2.2) kvs xs ∧
   ∃ o es ep,h.get? a=some o∧o.ExactDict∧o.data=.dict es ep∧es.toList=xs.map (entryOfKey (tupleKind (mixKind P w)))∧(xs.map (·.1)).Nodup
 | .set S n=>h.SetOf (intKind P w) a S n
 | .ins C dx fs=>H dx=some (.own a)∧fs.length≤1000∧dx≠a∧h.get? a=some (PySem.W.instObj C dx) ∧
   ∃ mA,h.Ns1 dx mA∧(∀ f,RelO (fs.lookup f) (mA f))∧PySem.Within mA (fs.map (·.1))
 | .own _=>∃ o,h.get? a=some o
 | .xd fs=>∃ mA,h.Ns1 a mA∧∀ f,RelO (fs.lookup f) (mA f)
 | .rng lo hi=>∃ t u v,h.get? a=some { cls:=.type "range",data:=.fields #[.int lo t,.int hi u,.int 1 v] }
 | .frz o u=>h.get? a=some o∧ObjOk H h a u
 | .tbl ps=>h.get? a=some { cls:=.none,data:=.fields ps }
 | .met f x=>h.get? a=some (PySem.W.methodObj (.ref f) (.ref x))
 | .ext φ=>φ h∧(∃ o,h.get? a=some o)∧∀ h1 h2:Heap,φ h1→(∀ o,h1.get? a=some o→h2.get? a=some o)→φ h2
def HOk (H:Hp) (h:Heap):Prop:=∀ a o,H a=some o→ObjOk P w H h a o
end
section
variable {P:Program}{w:World}{H H':Hp}{h h':Heap}{a:Addr}{o:HO}
theorem ObjOk.lt (x:ObjOk P w H h a o):a<h.objs.size:=by
 cases o with
 | lst xs=>obtain ⟨_,_,_,_,e⟩:=x;exact Heap.lt_size e
 | tup xs=>obtain ⟨_,_,_,p⟩:=x;exact p.lt
 | dK kvs=>obtain ⟨_,_,_,_,o,_,_,e,_⟩:=x;exact Heap.lt_size e
 | dT kvs=>obtain ⟨_,_,_,_,o,_,_,e,_⟩:=x;exact Heap.lt_size e
 | set S n=>obtain ⟨o,_,_,_,e,_⟩:=x;exact Heap.lt_size e
 | ins C dx fs=>obtain ⟨_,_,_,e,_⟩:=x;exact Heap.lt_size e
 | own y=>obtain ⟨_,e⟩:=x;exact Heap.lt_size e
 | xd fs=>obtain ⟨_,⟨_,_,_,e,_⟩,_⟩:=x;exact Heap.lt_size e
 | rng lo hi=>obtain ⟨_,_,_,e⟩:=x;exact Heap.lt_size e
 | frz ob u=>obtain ⟨e,_⟩:=x;exact Heap.lt_size e
 | tbl ps=>exact Heap.lt_size (show h.get? a=some _ from x)
 | met f y=>exact Heap.lt_size (show h.get? a=some _ from x)
 | ext φ=>obtain ⟨_,⟨_,e⟩,_⟩:=x;exact Heap.lt_size e
theorem Paired.mapP {α β:Type}{F G:α→β→Prop}:∀ {l₁:List α}{l₂:List β},Paired F l₁ l₂→(∀ a b,F a b→G a b)→Paired G l₁ l₂
 | _,_,.nil,_=>.nil
 | _,_,.cons r t,f=>.cons (f _ _ r) (Paired.mapP t f)
theorem ObjOk.stay (x:ObjOk P w H h a o) (k:∀ b u,(b=a∨H b=some (.own a))→h.get? b=some u→h'.get? b=some u)
  (ho:∀ b,H b=some (.own a)→H' b=some (.own a)) (ht:∀ b xs,H b=some (.tup xs)→H' b=some (.tup xs)):ObjOk P w H' h' a o:=by
 induction o with
 | lst xs=>obtain ⟨z,its,n,r,e⟩:=x;exact ⟨z,its,n,r,k _ _ (.inl rfl) e⟩
 | tup xs=>obtain ⟨z,its,r,ob,e,c⟩:=x;exact ⟨z,its,r,ob,k _ _ (.inl rfl) e,c⟩
 | dK kvs=>obtain ⟨z,y,vs,r,ob,es,ep,e,c⟩:=x;exact ⟨z,y,vs,r,ob,es,ep,k _ _ (.inl rfl) e,c⟩
 | dT kvs =>
  obtain ⟨z,y,xs,r,ob,es,ep,e,c⟩:=x
  exact ⟨z,y,xs,Paired.mapP r fun p q z=>⟨z.1,ht _ _ z.2.1,z.2.2⟩,ob,es,ep,k _ _ (.inl rfl) e,c⟩
 | set S n=>obtain ⟨ob,es,ep,t,e,c⟩:=x;exact ⟨ob,es,ep,t,k _ _ (.inl rfl) e,c⟩
 | ins C dx fs =>
  obtain ⟨d,z,ne,e,mA,⟨od,es,ep,e2,c⟩,r⟩:=x
  exact ⟨ho _ d,z,ne,k _ _ (.inl rfl) e,mA,⟨od,es,ep,k _ _ (.inr d) e2,c⟩,r⟩
 | own y=>obtain ⟨ob,e⟩:=x;exact ⟨ob,k _ _ (.inl rfl) e⟩
 | xd fs=>obtain ⟨mA,⟨od,es,ep,e,c⟩,r⟩:=x;exact ⟨mA,⟨od,es,ep,k _ _ (.inl rfl) e,c⟩,r⟩
 | rng lo hi=>obtain ⟨t,u,v,e⟩:=x;exact ⟨t,u,v,k _ _ (.inl rfl) e⟩
 | frz ob u ih=>obtain ⟨e,q⟩:=x;exact ⟨k _ _ (.inl rfl) e,ih q⟩
 | tbl ps =>
  have e:h.get? a=some { cls:=.none,data:=.fields ps }:=x
  show h'.get? a=some { cls:=.none,data:=.fields ps }
  exact k a _ (.inl rfl) e
 | met f y =>
  have e:h.get? a=some (PySem.W.methodObj (.ref f) (.ref y)):=x
  show h'.get? a=some (PySem.W.methodObj (.ref f) (.ref y))
  exact k a _ (.inl rfl) e
 | ext φ=>obtain ⟨p,⟨o,e⟩,st⟩:=x;exact ⟨st _ _ p fun o q=>k _ _ (.inl rfl) q,⟨o,k _ _ (.inl rfl) e⟩,st⟩
theorem HOk.lt (x:HOk P w H h) (e:H a=some o):a<h.objs.size:=(x a o e).lt
theorem HOk.fresh (x:HOk P w H h) (e:h.objs.size≤a):H a=none:=by
 cases q:H a with
 | none=>rfl
 | some u=>exact absurd (Nat.lt_of_lt_of_le (x.lt q) e) (Nat.lt_irrefl _)
theorem HOk.kept (x:HOk P w H h) (k:∀ b u,h.get? b=some u→h'.get? b=some u):HOk P w H h':=fun a o e =>
 (x a o e).stay (fun b u _ q=>k b u q) (fun _ q=>q) fun _ _ q=>q
theorem HOk.laid (x:HOk P w H h) (k:∀ b u,h.get? b=some u→h'.get? b=some u) (hp:h.objs.size≤a) (new:ObjOk P w (upd H a o) h' a o):HOk P w (upd H a o) h':=fun b u e=>by
 have hn:=x.fresh hp
 by_cases hb:b=a
 ·subst hb;rw [upd_same] at e;cases e;exact new
 ·rw [upd_ne hb] at e
  exact (x b u e).stay (fun c v _ q=>k c v q) (fun c q=>by rw [upd_ne (ne_of_none q hn)];exact q) fun c xs q=>by rw [upd_ne (ne_of_none q hn)];exact q
end
def Rd (H:Hp) (a:Addr) (u:HO):Prop:=H a=some u∨∃ o,H a=some (.frz o u)
theorem Rd.ok {P:Program}{w:World}{H:Hp}{h:Heap}{a:Addr}{u:HO} (r:Rd H a u) (x:HOk P w H h):ObjOk P w H h a u:=by
 rcases r with r | ⟨o,r⟩
 ·exact x a u r
 ·obtain ⟨_,q⟩:=x a _ r
  exact q
def Mut:Option HO→Prop
 | some (.lst _)=>True
 | some (.dK _)=>True
 | some (.dT _)=>True
 | some (.set _ _)=>True
 | some (.ins _ _ _)=>True
 | some (.ext _)=>True
 | _=>False
section
variable {P:Program}{w:World}{H:Hp}{h h':Heap}{x e:Addr}{o':HO}
theorem HOk.write (ok:HOk P w H h) (mu:Mut (H x)) (he:e=x∨H e=some (.own x)) (k:∀ b u,b≠e→h.get? b=some u→h'.get? b=some u) (heo:∃ u,h'.get? e=some u)
  (new:ObjOk P w (upd H x o') h' x o'):HOk P w (upd H x o') h':=fun b u q=>by
 have nown:∀ c y,H c=some (.own y)→c≠x:=fun c y r z=>by subst z;rw [r] at mu;exact mu
 have ntup:∀ c xs,H c=some (.tup xs)→c≠x:=fun c xs r z=>by subst z;rw [r] at mu;exact mu
 by_cases hb:b=x
 ·subst hb;rw [upd_same] at q;cases q;exact new
 ·rw [upd_ne hb] at q
  by_cases hbe:b=e
  ·have q':H b=some (.own x):=by
    rcases he with z | z
    ·exact absurd (hbe.trans z) hb
    ·rw [hbe];exact z
   rw [q] at q';cases q'
   obtain ⟨v,hv⟩:=heo
   exact ⟨v,by rw [hbe];exact hv⟩
  ·refine (ok b u q).stay (fun c v hc r=>k c v ?_ r) (fun c r=>by rw [upd_ne (nown c b r)];exact r) fun c xs r=>by rw [upd_ne (ntup c xs r)];exact r
   rcases hc with rfl | hc
   ·exact hbe
   ·rintro rfl
    rcases he with z | z
    ·exact nown c b hc z
    ·rw [hc] at z;cases z;exact hb rfl
end
structure Un (fs ex:List Addr) (H H':Hp) (h h':Heap):Prop where
 keep:∀ b o,h.get? b=some o→H b=none→b∉fs→b∉ex→h'.get? b=some o
 slot:∀ b o,h.get? b=some o→H b=none→b∈fs→b∉ex→∃ sl,h'.get? b=some { o with slots:=sl }
 free:∀ b o,h.get? b=some o→H b=none→b∉ex→H' b=none
 there:∀ b o,h.get? b=some o→b∉ex→∃ o',h'.get? b=some o'
 tups:∀ b xs,H b=some (.tup xs)→H' b=some (.tup xs)
 frzs:∀ b o u,H b=some (.frz o u)→H' b=some (.frz o u)
 tbls:∀ b ps,H b=some (.tbl ps)→∃ more,H' b=some (.tbl (ps++more))
section
variable {fs fs' ex ex':List Addr}{H H1 H2:Hp}{h h1 h2 h':Heap}{a x e:Addr}{o:HO}
theorem Un.any (u:Un fs ex H H1 h h1) {b:Addr}{ob:Obj} (q:h.get? b=some ob) (n:H b=none) (hx:b∉ex):∃ sl,h1.get? b=some { ob with slots:=sl }:=by
 by_cases hb:b∈fs
 ·exact u.slot b ob q n hb hx
 ·exact ⟨ob.slots,u.keep b ob q n hb hx⟩
theorem Un.kept (k:∀ b u,h.get? b=some u→h'.get? b=some u):Un fs ex H H h h' :=
 ⟨fun b ob q _ _ _=>k b ob q,fun b ob q _ _ _=>⟨ob.slots,k b ob q⟩,fun _ _ _ n _=>n,fun b ob q _=>⟨ob,k b ob q⟩,fun _ _ q=>q,fun _ _ _ q=>q,fun _ ps q=>⟨#[],by rw [q];simp⟩⟩
theorem Un.refl:Un fs ex H H h h:=Un.kept fun _ _ q=>q
theorem Un.laid (k:∀ b u,h.get? b=some u→h'.get? b=some u) (hp:h.objs.size≤a) (hn:H a=none):Un fs ex H (upd H a o) h h' where
 keep:=fun b u q _ _ _=>k b u q
 slot:=fun b u q _ _ _=>⟨u.slots,k b u q⟩
 free:=fun b u q n _=>by rw [upd_ne (Nat.ne_of_lt (Nat.lt_of_lt_of_le (Heap.lt_size q) hp))];exact n
 there:=fun b u q _=>⟨u,k b u q⟩
 tups:=fun b xs q=>by rw [upd_ne (ne_of_none q hn)];exact q
 frzs:=fun b u xs q=>by rw [upd_ne (ne_of_none q hn)];exact q
 tbls:=fun b ps q=>⟨#[],by rw [upd_ne (ne_of_none q hn),q];simp⟩
theorem Un.write (mu:Mut (H x)) (he:e=x∨H e=some (.own x)) (k:∀ b u,b≠e→h.get? b=some u→h'.get? b=some u) (heo:∃ u,h'.get? e=some u):Un fs ex H (upd H x o) h h':=by
 have hx:∀ b,H b=none→b≠x:=fun b n z=>by subst z;rw [n] at mu;exact mu
 have hb:∀ b,H b=none→b≠e:=fun b n z=>by
  subst z
  rcases he with r | r
  ·exact hx b n r
  ·rw [n] at r;cases r
 have hm:∀ b u,H b=some u→¬ Mut (some u)→b≠x:=fun b u q nm z=>by subst z;rw [q] at mu;exact nm mu
 refine ⟨fun b u q n _ _=>k b u (hb b n) q,fun b u q n _ _=>⟨u.slots,k b u (hb b n) q⟩,fun b u q n _=>by rw [upd_ne (hx b n)];exact n,fun b u q _=>?_,
  fun b xs q=>by rw [upd_ne (hm b _ q fun z=>z)];exact q,fun b u xs q=>by rw [upd_ne (hm b _ q fun z=>z)];exact q,fun b ps q=>⟨#[],by rw [upd_ne (hm b _ q fun z=>z),q];simp⟩⟩
 by_cases hbe:b=e
 ·subst hbe;exact heo
 ·exact ⟨u,k b u hbe q⟩
end
def trk (h:Heap) (H:Hp):List Addr:=(List.range h.objs.size).filter fun a=>(H a).isSome
def hidT (h:Heap) (H:Hp):Heap:=PySem.W.hideAll h (trk h H)
theorem hidT_size (h:Heap) (H:Hp):(hidT h H).objs.size=h.objs.size:=PySem.W.hideAll_size _ _
theorem hidT_get {h:Heap}{H:Hp}{b:Addr}{o:Obj} (e:h.get? b=some o) (n:H b=none):(hidT h H).get? b=some o :=
 PySem.W.hideAll_get _ e fun hm=>by
  have q:(H b).isSome=true:=(List.mem_filter.mp hm).2
  rw [n] at q;simp at q
theorem of_hidT {h:Heap}{H:Hp}{b:Addr}{o:Obj} (e:(hidT h H).get? b=some o):h.get? b=some o∧H b=none:=by
 have e':h.get? b=some o:=PySem.W.of_hideAll (trk h H) e
 refine ⟨e',?_⟩
 cases q:H b with
 | none=>rfl
 | some x =>
  have hm:b∈trk h H:=List.mem_filter.mpr ⟨List.mem_range.mpr (Heap.lt_size e'),by simp [q]⟩
  have z:(hidT h H).get? b=none:=PySem.W.hideAll_none (trk h H) hm
  rw [z] at e;cases e
def allNews (g h:Heap) (L:Addr):List (Addr × Obj):=(List.range h.objs.size).filterMap fun a=>if a=L∨(g.get? a).isSome=true then none else (h.get? a).map fun o=>(a,o)
theorem mem_allNews {g h:Heap}{L a:Addr}{o:Obj} (h1:a≠L) (h2:g.get? a=none) (h3:h.get? a=some o):(a,o)∈allNews g h L :=
 List.mem_filterMap.mpr ⟨a,List.mem_range.mpr (Heap.lt_size h3),by simp [h1,h2,h3]⟩
theorem of_mem_allNews {g h:Heap}{L:Addr}{p:Addr × Obj} (hp:p∈allNews g h L):p.1≠L∧g.get? p.1=none∧h.get? p.1=some p.2:=by
 obtain ⟨b,_,e⟩:=List.mem_filterMap.mp hp
 split at e
 ·cases e
 ·rename_i hn
  cases q:h.get? b with
  | none=>rw [q] at e;simp at e
  | some u =>
   rw [q] at e
   simp only [Option.map_some,Option.some.injEq] at e
   subst e
   refine ⟨fun z=>hn (.inl z),?_,q⟩
   show g.get? b=none
   cases r:g.get? b with
   | none=>rfl
   | some v=>exact (hn (.inr (by simp [r]))).elim
theorem news_all {g h:Heap}{L:Addr}:News g L h (allNews g h L):=fun p hp=>let ⟨a,b,c⟩:=of_mem_allNews hp;⟨c,a,b⟩
end L2
namespace L2
open PySem PySem.Spec PyProof.Rows
structure Mod (K:PySem.W.Frag) (mg:Str→Option Value) (base:Heap):Prop where
 kin:K.In base
 glob:base.Ns mainGlobals mg
 blt:∃ mb,base.Ns builtinsNs mb∧∀ x:Str,x≠"__name__"→mb x=bootBuiltins x
 nolimit:base.NoLimit
structure Cx where
 prog:Program
 w:World
 K:PySem.W.Frag
 mg:Str→Option Value
 base:Heap
 A:Around
 N:List Str
 s_0:Shared
 H_0:Hp
 env:Env
 outer:List Env
 stack:List Env
 ex:List Addr
 fn:Str→Bool
 calm:Bool
 pn:List (Addr × Obj)
 xe:Value→Shared→Prop
def frs (l:List Env):List Addr:=l.filterMap (·.frame)
abbrev Cx.fs (X:Cx):List Addr:=frs X.outer
def Vis (sc:Scope) (x:Str):Prop:=sc.names.lookup x=some .local∨sc.names.lookup x=some .cell∨sc.names.lookup x=some .free
def Loc (sc:Scope) (x:Str):Prop:=sc.names.lookup x=some .local∨sc.names.lookup x=some .cell
def Look (env:Env) (h:Heap) (m:Str→Option Value) (x:Str) (u:Value):Prop :=
 (env.kindOf x=some .local∧m x=some u)∨((env.kindOf x=some .cell∨env.kindOf x=some .free)∧∃ c,env.cells.lookup x=some c∧h.IsCell c (some u))
structure Cx.Ok (X:Cx):Prop where
 mod:Mod X.K X.mg X.base
 kind:X.env.scope.kind=.function
 glob:X.env.globals=mainGlobals
 blt:X.env.builtins=builtinsNs
 above:X.s_0.heap.objs.size≤X.env.locals
 inj:∀ x y c,X.env.cells.lookup x=some c→X.env.cells.lookup y=some c→x=y
 has:∀ x,(X.env.kindOf x=some .cell∨X.env.kindOf x=some .free)→∃ c,X.env.cells.lookup x=some c
 cab:∀ x c,X.fn x=true→X.env.cells.lookup x=some c→X.s_0.heap.objs.size≤c
 hd:X.calm=true→X.A.handled=none
 frames:X.A.frames=some X.stack
 stk:X.stack=X.outer∨(X.stack=X.env::X.outer∧X.env.frame=some X.env.locals)
 exf:∀ b∈X.ex,b≠X.env.locals∧∀ x c,X.env.cells.lookup x=some c→c≠b
 bs:∀ b o,X.base.get? b=some o→X.s_0.heap.get? b=some o∧X.H_0 b=none
 bsz:X.base.objs.size≤X.s_0.heap.objs.size
 noex:∀ b o,X.base.get? b=some o→b∉X.ex
 exfs:∀ b∈X.ex,b∉X.fs
 funs:X.s_0.heap.FunFrames X.base X.outer
 frf:∀ b∈X.fs,X.H_0 b=none
structure Inv (X:Cx) (pins:List (Addr × Obj)) (σ:List (Option V)) (H:Hp) (s:Shared):Prop where
 ok:X.Ok
 os:s.os=X.s_0.os
 bare:AllBare s.gens
 base:Un X.fs X.ex X.H_0 H X.s_0.heap s.heap
 loc:∃ m,s.heap.Ns X.env.locals m∧∀ (i:Nat) (x:Str) (v:V),X.N[i]?=some x→σ[i]?=some (some v)→Vis X.env.scope x→∃ u,RelV v u∧Look X.env s.heap m x u
 cell:∀ x c,X.env.cells.lookup x=some c→∃ v,s.heap.IsCell c v
 free:H X.env.locals=none
 freeC:∀ x c,X.env.cells.lookup x=some c→H c=none
 pin:∀ p∈X.pn++pins,s.heap.get? p.1=some p.2∧H p.1=none∧p.1≠X.env.locals∧p.1∉X.fs∧∀ v,p.2.data≠.cell v
 hok:HOk X.prog X.w H s.heap
 len:σ.length=X.N.length
section
variable {X:Cx}{pins:List (Addr × Obj)}{σ:List (Option V)}{H H':Hp}{s:Shared}{h':Heap}
theorem Cx.Ok.nofr (ok:X.Ok) {b:Addr}{o:Obj} (e:X.base.get? b=some o):b∉X.fs:=fun hb=>by
 have:=(ok.funs.mem hb).1
 rw [e] at this;cases this
theorem Inv.bs (I:Inv X pins σ H s):∀ b o,X.base.get? b=some o→s.heap.get? b=some o∧H b=none:=fun b o e =>
 ⟨I.base.keep b o (I.ok.bs b o e).1 (I.ok.bs b o e).2 (I.ok.nofr e) (I.ok.noex b o e),I.base.free b o (I.ok.bs b o e).1 (I.ok.bs b o e).2 (I.ok.noex b o e)⟩
theorem Inv.bk (I:Inv X pins σ H s):∀ b o,X.base.get? b=some o→s.heap.get? b=some o:=fun b o e=>(I.bs b o e).1
theorem Inv.mod (I:Inv X pins σ H s):Mod X.K X.mg X.base:=I.ok.mod
theorem Inv.kIn (I:Inv X pins σ H s):X.K.In s.heap:=I.ok.mod.kin.keeps I.bk
theorem Inv.fr (I:Inv X pins σ H s):∃ m,Fr X.base X.env.locals s.heap m :=
 let ⟨m,hn,_⟩:=I.loc
 ⟨m,hn,I.bk,Nat.le_trans I.ok.bsz I.ok.above⟩
theorem Inv.lt (I:Inv X pins σ H s):X.env.locals<s.heap.objs.size:=let ⟨_,hn,_⟩:=I.loc;hn.lt
theorem Inv.sz (I:Inv X pins σ H s):X.s_0.heap.objs.size≤s.heap.objs.size:=Nat.le_trans I.ok.above (Nat.le_of_lt I.lt)
theorem Inv.nofs (I:Inv X pins σ H s) {a:Addr} (h:s.heap.objs.size≤a):a∉X.fs:=fun hb=>by
 obtain ⟨_,o,ho,_⟩:=I.ok.funs.mem hb
 exact absurd (Nat.lt_of_lt_of_le (Heap.lt_size ho) (Nat.le_trans I.sz h)) (Nat.lt_irrefl _)
theorem Inv.cne (I:Inv X pins σ H s):∀ x c,X.env.cells.lookup x=some c→c≠X.env.locals:=fun x c e z=>by
 obtain ⟨v,o,ho,hd⟩:=I.cell x c e
 obtain ⟨m,⟨o',es,ep,ho',hd',_⟩,_⟩:=I.loc
 rw [z,ho'] at ho;cases ho;rw [hd'] at hd;cases hd
theorem Inv.funs (I:Inv X pins σ H s):s.heap.FunFrames X.base X.outer:=by
 have all:∀ (l:List Env),(∀ b∈frs l,b∈X.fs)→X.s_0.heap.FunFrames X.base l→s.heap.FunFrames X.base l:=by
  intro l
  induction l with
  | nil=>intro _ _;trivial
  | cons env r ih =>
   intro hs hl
   obtain ⟨hk,⟨L,o,hf,hn,ho,hd⟩,hr⟩:=hl
   have hL:L∈X.fs:=hs L (by unfold frs;rw [List.filterMap_cons,hf];exact List.mem_cons_self)
   obtain ⟨sl,e⟩:=I.base.slot L o ho (I.ok.frf L hL) hL fun z=>I.ok.exfs L z hL
   exact ⟨hk,⟨L,_,hf,hn,e,hd⟩,ih (fun b hb=>hs b (by unfold frs;rw [List.filterMap_cons,hf];exact List.mem_cons_of_mem _ hb)) hr⟩
 exact all X.outer (fun _ hb=>hb) I.ok.funs
theorem Inv.stack (I:Inv X pins σ H s):s.heap.FunFrames X.base X.stack:=by
 rcases I.ok.stk with e | ⟨e,hf⟩
 ·rw [e];exact I.funs
 ·rw [e]
  obtain ⟨m,hn,_⟩:=I.loc
  refine .cons (by rw [I.ok.kind];decide) hf hn ?_ I.funs
  exact Heap.get?_none_of_le (Nat.le_trans I.ok.bsz I.ok.above)
theorem Inv.stkSub (I:Inv X pins σ H s):∀ b∈frs X.stack,b∈X.env.locals::X.fs:=fun b hb=>by
 rcases I.ok.stk with e | ⟨e,hf⟩
 ·rw [e] at hb;exact List.mem_cons_of_mem _ hb
 ·rw [e] at hb
  unfold frs at hb
  rw [List.filterMap_cons,hf] at hb
  exact hb
theorem Inv.stkFree (I:Inv X pins σ H s):∀ b∈frs X.stack,H b=none:=fun b hb=>by
 rcases List.mem_cons.mp (I.stkSub b hb) with e | hb
 ·rw [e];exact I.free
 ·obtain ⟨_,o,ho,_⟩:=I.ok.funs.mem hb
  exact I.base.free b o ho (I.ok.frf b hb) fun z=>I.ok.exfs b z hb
theorem Inv.step {g':Array GenState}{t':Nat}{d':Drawn}{ch:List Addr} (I:Inv X pins σ H s)
  (hch:∀ b∈ch,(b∈X.ex∨X.s_0.heap.objs.size≤b)∧b≠X.env.locals∧(∀ x c,X.env.cells.lookup x=some c→c≠b)∧∀ p∈X.pn++pins,p.1≠b)
  (keep:∀ b o,b≠X.env.locals→b∉X.fs→b∉ch→s.heap.get? b=some o→H b=none→h'.get? b=some o)
  (slot:∀ b o,b≠X.env.locals→b∈X.fs→b∉ch→s.heap.get? b=some o→H b=none→∃ sl,h'.get? b=some { o with slots:=sl }) (free:∀ b o,b∉ch→s.heap.get? b=some o→H b=none→H' b=none)
  (there:∀ b o,b∉ch→s.heap.get? b=some o→∃ o',h'.get? b=some o')
  (tups:∀ b xs,H b=some (.tup xs)→H' b=some (.tup xs)) (frzs:∀ b o u,H b=some (.frz o u)→H' b=some (.frz o u)) (tbls:∀ b ps,H b=some (.tbl ps)→∃ more,H' b=some (.tbl (ps++more)))
  (ns:∀ m,s.heap.Ns X.env.locals m→h'.Ns X.env.locals m) (hok:HOk X.prog X.w H' h') (hg:AllBare g') :
  Inv X pins σ H' { s with heap:=h',gens:=g',drawn:=d',toks:=t' }:=by
 have neL:∀ b o,X.s_0.heap.get? b=some o→b≠X.env.locals:=fun b o e=>Nat.ne_of_lt (Nat.lt_of_lt_of_le (Heap.lt_size e) I.ok.above)
 have neC:∀ b o,X.s_0.heap.get? b=some o→b∉X.ex→b∉ch:=fun b o e hx hb=>by
  rcases (hch b hb).1 with z | z
  ·exact hx z
  ·exact absurd (Nat.lt_of_lt_of_le (Heap.lt_size e) z) (Nat.lt_irrefl _)
 have cellK:∀ x c,X.env.cells.lookup x=some c→∀ v,s.heap.IsCell c v→h'.IsCell c v:=fun x c e v ⟨o,ho,hd⟩=>by
  have nch:c∉ch:=fun z=>(hch c z).2.2.1 x c e rfl
  by_cases hc:c∈X.fs
  ·obtain ⟨sl,q⟩:=slot c o (I.cne x c e) hc nch ho (I.freeC x c e)
   exact ⟨_,q,hd⟩
  ·exact ⟨o,keep c o (I.cne x c e) hc nch ho (I.freeC x c e),hd⟩
 refine ⟨I.ok,I.os,hg,⟨fun b o e n hb hx=>?_,fun b o e n hb hx=>?_,fun b o e n hx=>?_,fun b o e hx=>?_,fun b xs e=>tups b xs (I.base.tups b xs e),fun b o xs e=>frzs b o xs (I.base.frzs b o xs e),fun b ps e=>?_⟩,?_,fun x c e=>?_,?_,fun x c e=>?_,fun p hp=>?_,hok,I.len⟩
 ·exact keep b o (neL b o e) hb (neC b o e hx) (I.base.keep b o e n hb hx) (I.base.free b o e n hx)
 ·obtain ⟨sl,e1⟩:=I.base.slot b o e n hb hx
  obtain ⟨sl',e2⟩:=slot b _ (neL b o e) hb (neC b o e hx) e1 (I.base.free b o e n hx)
  exact ⟨sl',e2⟩
 ·obtain ⟨o',e1⟩:=I.base.there b o e hx
  exact free b o' (neC b o e hx) e1 (I.base.free b o e n hx)
 ·obtain ⟨o',e1⟩:=I.base.there b o e hx
  exact there b o' (neC b o e hx) e1
 ·obtain ⟨m1,e1⟩:=I.base.tbls b ps e
  obtain ⟨m2,e2⟩:=tbls b _ e1
  exact ⟨m1++m2,by rw [e2,Array.append_assoc]⟩
 ·obtain ⟨m,hn,hl⟩:=I.loc
  refine ⟨m,ns m hn,fun i x v e1 e2 e3=>?_⟩
  obtain ⟨u,r,l⟩:=hl i x v e1 e2 e3
  refine ⟨u,r,?_⟩
  rcases l with l | ⟨k,c,e,z⟩
  ·exact .inl l
  ·exact .inr ⟨k,c,e,cellK x c e _ z⟩
 ·obtain ⟨v,z⟩:=I.cell x c e
  exact ⟨v,cellK x c e v z⟩
 ·obtain ⟨m,⟨o,_,_,ho,_⟩,_⟩:=I.loc
  exact free _ o (fun z=>(hch _ z).2.1 rfl) ho I.free
 ·obtain ⟨v,o,ho,hd⟩:=I.cell x c e
  exact free c o (fun z=>(hch c z).2.2.1 x c e rfl) ho (I.freeC x c e)
 ·obtain ⟨e,n,ne,nf,d⟩:=I.pin p hp
  have nch:p.1∉ch:=fun z=>(hch p.1 z).2.2.2 p hp rfl
  exact ⟨keep p.1 p.2 ne nf nch e n,free p.1 p.2 nch e n,ne,nf,d⟩
theorem Inv.un {t':Nat} (I:Inv X pins σ H s) (u:Un X.fs [] H H' s.heap h') (hok:HOk X.prog X.w H' h'):Inv X pins σ H' { s with heap:=h',toks:=t' }:=by
 obtain ⟨m,⟨o,es,ep,ho,r⟩,_⟩:=id I.loc
 obtain ⟨sl,hL⟩:=u.any ho I.free (by simp)
 exact I.step (g':=s.gens) (d':=s.drawn) (ch:=[]) (fun _ z=>nomatch z) (fun b o _ hb _ e n=>u.keep b o e n hb (by simp)) (fun b o _ hb _ e n=>u.slot b o e n hb (by simp)) (fun b o _ e n=>u.free b o e n (by simp)) (fun b o _ e=>u.there b o e (by simp)) u.tups u.frzs u.tbls (fun m' hm=>by
  obtain ⟨o',es',ep',ho',r'⟩:=hm
  rw [ho] at ho';cases ho'
  exact ⟨_,es',ep',hL,r'⟩) hok I.bare
theorem Inv.call {g':Array GenState}{t':Nat}{d':Drawn}{ch:List Addr} (I:Inv X pins σ H s) (u:Un (frs X.stack) ch H H' s.heap h') (hok:HOk X.prog X.w H' h') (hg:AllBare g')
  (hch:∀ b∈ch,(b∈X.ex∨X.s_0.heap.objs.size≤b)∧b≠X.env.locals∧(∀ x c,X.env.cells.lookup x=some c→c≠b)∧∀ p∈X.pn++pins,p.1≠b) :
  Inv X pins σ H' { s with heap:=h',gens:=g',drawn:=d',toks:=t' }:=by
 obtain ⟨m,⟨o,es,ep,ho,r⟩,_⟩:=id I.loc
 obtain ⟨sl,hL⟩:=u.any ho I.free fun z=>(hch _ z).2.1 rfl
 exact I.step (ch:=ch) hch (fun b o hL hb hc e n=>u.keep b o e n (fun z=>(List.mem_cons.mp (I.stkSub b z)).elim hL hb) hc) (fun b o _ _ hc e n=>u.any e n hc) (fun b o hc e n=>u.free b o e n hc) (fun b o hc e=>u.there b o e hc) u.tups u.frzs u.tbls (fun m' hm=>by
  obtain ⟨o',es',ep',ho',r'⟩:=hm
  rw [ho] at ho';cases ho'
  exact ⟨_,es',ep',hL,r'⟩) hok hg
theorem Inv.turned {t':Nat}{it:Addr} (I:Inv X pins σ H s) (k:∀ b o,b≠it→s.heap.get? b=some o→h'.get? b=some o) (hn:H it=none) (hL:it≠X.env.locals)
  (h1:it∈X.ex∨X.s_0.heap.objs.size≤it) (h2:∀ x c,X.env.cells.lookup x=some c→c≠it) (h3:∀ p∈X.pn++pins,p.1≠it):Inv X pins σ H { s with heap:=h',toks:=t' }:=by
 have nit:∀ b u,H b=some u→b≠it:=fun b u e z=>by rw [z,hn] at e;cases e
 refine I.step (g':=s.gens) (d':=s.drawn) (ch:=[it]) (fun b hb=>?_) (fun b o _ _ hc e _=>k b o (fun z=>hc (by simp [z])) e) (fun b o _ _ hc e _=>⟨o.slots,k b o (fun z=>hc (by simp [z])) e⟩) (fun _ _ _ _ n=>n)
  (fun b o hc e=>⟨o,k b o (fun z=>hc (by simp [z])) e⟩) (fun _ _ e=>e) (fun _ _ _ e=>e) (fun b ps e=>⟨#[],by rw [e];simp⟩) (fun m hm=>?_) (fun b u e=>?_) I.bare
 ·have e:b=it:=by simpa using hb
  subst e
  exact ⟨h1,hL,h2,h3⟩
 ·obtain ⟨o,es,ep,ho,r⟩:=hm
  exact ⟨o,es,ep,k _ o (Ne.symm hL) ho,r⟩
 ·refine (I.hok b u e).stay (fun c v hc q=>k c v ?_ q) (fun _ q=>q) fun _ _ q=>q
  rcases hc with z | z
  ·rw [z];exact nit b u e
  ·exact nit c _ z
theorem Inv.tok (I:Inv X pins σ H s) (t:Nat):Inv X pins σ H { s with toks:=t }:=I.un (h':=s.heap) (t':=t) Un.refl I.hok
theorem Inv.kept {t':Nat} (I:Inv X pins σ H s) (k:∀ b u,s.heap.get? b=some u→h'.get? b=some u):Inv X pins σ H { s with heap:=h',toks:=t' }:=I.un (Un.kept k) (I.hok.kept k)
theorem Inv.laid {a:Addr}{o:HO}{t':Nat} (I:Inv X pins σ H s) (k:∀ b u,s.heap.get? b=some u→h'.get? b=some u) (hp:s.heap.objs.size≤a) (new:ObjOk X.prog X.w (upd H a o) h' a o) :
  Inv X pins σ (upd H a o) { s with heap:=h',toks:=t' }:=I.un (Un.laid k hp (I.hok.fresh hp)) (I.hok.laid k hp new)
theorem Inv.write {x e:Addr}{o:HO}{t':Nat} (I:Inv X pins σ H s) (mu:Mut (H x)) (he:e=x∨H e=some (.own x)) (k:∀ b u,b≠e→s.heap.get? b=some u→h'.get? b=some u) (heo:∃ u,h'.get? e=some u)
  (new:ObjOk X.prog X.w (upd H x o) h' x o):Inv X pins σ (upd H x o) { s with heap:=h',toks:=t' }:=I.un (Un.write mu he k heo) (I.hok.write mu he k heo new)
theorem Inv.weak {σ':List (Option V)} (I:Inv X pins σ H s) (hl:σ'.length=σ.length) (w:∀ (i:Nat) v,σ'[i]?=some (some v)→σ[i]?=some (some v)):Inv X pins σ' H s :=
 ⟨I.ok,I.os,I.bare,I.base,let ⟨m,hn,hl'⟩:=I.loc;⟨m,hn,fun i x v e1 e2 e3=>hl' i x v e1 (w i v e2) e3⟩,I.cell,I.free,I.freeC,I.pin,I.hok,hl.trans I.len⟩
theorem Inv.pins_of {pins':List (Addr × Obj)} (I:Inv X pins σ H s) (h:∀ p∈pins',s.heap.get? p.1=some p.2∧H p.1=none∧p.1≠X.env.locals∧p.1∉X.fs∧∀ v,p.2.data≠.cell v):Inv X pins' σ H s :=
 ⟨I.ok,I.os,I.bare,I.base,I.loc,I.cell,I.free,I.freeC,fun p hp=>(List.mem_append.mp hp).elim (fun z=>I.pin p (List.mem_append_left _ z)) (h p),I.hok,I.len⟩
theorem nodup_ix {N:List Str} (hN:N.Nodup) {i j:Nat}{x:Str} (a:N[i]?=some x) (b:N[j]?=some x):i=j:=by
 obtain ⟨h1,e1⟩:=List.getElem?_eq_some_iff.mp a
 obtain ⟨h2,e2⟩:=List.getElem?_eq_some_iff.mp b
 exact (List.getElem_inj hN).mp (e1.trans e2.symm)
theorem store_ok2 {M:Model}{A:Around}{E:Value→Shared→Prop}{i:Nat}{x:Str}{v:V}{u:Value}{Q:Unit→Shared→Prop} (I:Inv X pins σ H s) (hN:X.N.Nodup) (hi:X.N[i]?=some x) (hx:Loc X.env.scope x) (r:RelV v u)
  (h:∀ s',Inv X pins (σ.set i (some v)) H s'→(∃ a,Heap.SameBut a s.heap s'.heap∧(a=X.env.locals∨X.env.cells.lookup x=some a))→Q () s') (hf:X.fn x=true∨X.env.scope.names.lookup x=some .local:=by first | exact .inl rfl | exact .inr rfl | assumption):wpAny M A (storeName X.env x u) Q E s:=by
 obtain ⟨m,hn,hl⟩:=id I.loc
 have hcls:(X.env.scope.kind == .class || (X.env.scope.kind == .module && X.env.locals != X.env.globals))=false:=by rw [I.ok.kind];rfl
 have hiσ:i<σ.length:=by rw [I.len];exact (List.getElem?_eq_some_iff.mp hi).1
 have cne:=I.cne
 have tracked:∀ {a:Addr}{h':Heap},(∃ o,s.heap.get? a=some o∧H a=none)→Heap.SameBut a s.heap h'→HOk X.prog X.w H h':=fun {a h'} ha hs b ob e=>by
  obtain ⟨_,_,hfree⟩:=ha
  refine (I.hok b ob e).stay (fun c w' hc q=>(hs.2 c ?_).trans q) (fun _ q=>q) fun _ _ q=>q
  rintro rfl
  rcases hc with rfl | hc
  ·rw [hfree] at e;cases e
  ·rw [hfree] at hc;cases hc
 rcases hx with hk | hk
 ·refine wpAny_storeName_local hk hn (fun h' hn' hs=>?_) hcls
  obtain ⟨oL,_,_,hoL,_⟩:=id hn
  refine h _ ⟨I.ok,I.os,I.bare,⟨fun b o e n hb hx=>?_,fun b o e n hb hx=>?_,I.base.free,fun b o e hx=>?_,I.base.tups,I.base.frzs,I.base.tbls⟩,⟨_,hn',fun j y v' e1 e2 e3=>?_⟩,fun y c e=>?_,I.free,I.freeC,fun p hp=>?_,tracked ⟨oL,hoL,I.free⟩ hs,by simpa using I.len⟩ ⟨_,hs,.inl rfl⟩
  ·exact (hs.2 b (Nat.ne_of_lt (Nat.lt_of_lt_of_le (Heap.lt_size e) I.ok.above))).trans (I.base.keep b o e n hb hx)
  ·obtain ⟨sl,e1⟩:=I.base.slot b o e n hb hx
   exact ⟨sl,(hs.2 b (Nat.ne_of_lt (Nat.lt_of_lt_of_le (Heap.lt_size e) I.ok.above))).trans e1⟩
  ·obtain ⟨o',e1⟩:=I.base.there b o e hx
   exact ⟨o',(hs.2 b (Nat.ne_of_lt (Nat.lt_of_lt_of_le (Heap.lt_size e) I.ok.above))).trans e1⟩
  ·by_cases hj:j=i
   ·subst hj
    rw [hi] at e1;cases e1
    rw [List.getElem?_set_self hiσ] at e2
    cases e2
    exact ⟨u,r,.inl ⟨hk,by simp⟩⟩
   ·rw [List.getElem?_set_ne (Ne.symm hj)] at e2
    obtain ⟨u',r',q⟩:=hl j y v' e1 e2 e3
    refine ⟨u',r',?_⟩
    rcases q with ⟨k,e⟩ | ⟨k,c,e,z⟩
    ·refine .inl ⟨k,?_⟩
     have:y≠x:=fun e=>hj (nodup_ix hN e1 (e ▸ hi))
     simp [this,e]
    ·exact .inr ⟨k,c,e,z.sameBut hs (cne y c e)⟩
  ·obtain ⟨w',z⟩:=I.cell y c e
   exact ⟨w',z.sameBut hs (cne y c e)⟩
  ·obtain ⟨e,n,ne,nf,d⟩:=I.pin p hp
   exact ⟨(hs.2 p.1 ne).trans e,n,ne,nf,d⟩
 ·have hfn:X.fn x=true:=by
   rcases hf with z | z
   ·exact z
   ·rw [z] at hk;cases hk
  obtain ⟨c,hc⟩:=I.ok.has x (.inl hk)
  obtain ⟨w',z⟩:=I.cell x c hc
  refine wpAny_storeName_cell I.ok.kind hk hc z (fun h' hc' hs=>?_)
  obtain ⟨oc,hoc,hocd⟩:=id z
  refine h { s with heap:=h' } ⟨I.ok,I.os,I.bare,⟨fun b o e n hb hx=>?_,fun b o e n hb hx=>?_,I.base.free,fun b o e hx=>?_,I.base.tups,I.base.frzs,I.base.tbls⟩,⟨m,hn.sameBut hs (Ne.symm (cne x c hc)),fun j y v' e1 e2 e3=>?_⟩,fun y c' e=>?_,I.free,I.freeC,fun p hp=>?_,tracked ⟨oc,hoc,I.freeC x c hc⟩ hs,by simpa using I.len⟩ ⟨c,hs,.inr hc⟩
  ·exact (hs.2 b (Nat.ne_of_lt (Nat.lt_of_lt_of_le (Heap.lt_size e) (I.ok.cab x c hfn hc)))).trans (I.base.keep b o e n hb hx)
  ·obtain ⟨sl,e1⟩:=I.base.slot b o e n hb hx
   exact ⟨sl,(hs.2 b (Nat.ne_of_lt (Nat.lt_of_lt_of_le (Heap.lt_size e) (I.ok.cab x c hfn hc)))).trans e1⟩
  ·obtain ⟨o',e1⟩:=I.base.there b o e hx
   exact ⟨o',(hs.2 b (Nat.ne_of_lt (Nat.lt_of_lt_of_le (Heap.lt_size e) (I.ok.cab x c hfn hc)))).trans e1⟩
  ·by_cases hj:j=i
   ·subst hj
    rw [hi] at e1;cases e1
    rw [List.getElem?_set_self hiσ] at e2
    cases e2
    exact ⟨u,r,.inr ⟨.inl hk,c,hc,hc'⟩⟩
   ·rw [List.getElem?_set_ne (Ne.symm hj)] at e2
    obtain ⟨u',r',q⟩:=hl j y v' e1 e2 e3
    refine ⟨u',r',?_⟩
    rcases q with q | ⟨k,c',e,z'⟩
    ·exact .inl q
    ·refine .inr ⟨k,c',e,z'.sameBut hs ?_⟩
     rintro rfl
     exact hj (nodup_ix hN e1 (I.ok.inj _ _ _ e hc ▸ hi))
  ·by_cases hcc:c'=c
   ·subst hcc;exact ⟨_,hc'⟩
   ·obtain ⟨w2,z2⟩:=I.cell y c' e
    exact ⟨w2,z2.sameBut hs hcc⟩
  ·obtain ⟨e,n,ne,nf,d⟩:=I.pin p hp
   refine ⟨(hs.2 p.1 ?_).trans e,n,ne,nf,d⟩
   intro q
   rw [q,hoc] at e
   have q':oc=p.2:=Option.some.inj e
   exact d w' (by rw [← q'];exact hocd)
theorem store_ok {M:Model}{A:Around}{E:Value→Shared→Prop}{i:Nat}{x:Str}{v:V}{u:Value}{Q:Unit→Shared→Prop} (I:Inv X pins σ H s) (hN:X.N.Nodup) (hi:X.N[i]?=some x) (hx:Loc X.env.scope x) (r:RelV v u)
  (h:∀ s',Inv X pins (σ.set i (some v)) H s'→Q () s') (hf:X.fn x=true∨X.env.scope.names.lookup x=some .local:=by first | exact .inl rfl | exact .inr rfl | assumption):wpAny M A (storeName X.env x u) Q E s :=
 store_ok2 I hN hi hx r (fun s' I' _=>h s' I') hf
theorem Inv.call' {s':Shared}{ch:List Addr} (I:Inv X pins σ H s) (ho:s'.os=s.os) (u:Un (frs X.stack) ch H H' s.heap s'.heap) (hok:HOk X.prog X.w H' s'.heap) (hg:AllBare s'.gens)
  (hch:∀ b∈ch,(b∈X.ex∨X.s_0.heap.objs.size≤b)∧b≠X.env.locals∧(∀ x c,X.env.cells.lookup x=some c→c≠b)∧∀ p∈X.pn++pins,p.1≠b):Inv X pins σ H' s':=by
 obtain ⟨h',g',d',t',o'⟩:=s'
 have e:o'=s.os:=ho
 subst e
 exact I.call (g':=g') (t':=t') (d':=d') u hok hg hch
end
abbrev XK:=Value→Option Addr→Hp→Prop
abbrev St:=List (Option V)
abbrev VK:=V→Hp→Prop
abbrev TE:=St→Hp→VK→Prop
abbrev TT:=St→Hp→(Bool→Hp→Prop)→Prop
abbrev TA:=St→Hp→(List V→Hp→Prop)→Prop
structure Ends where
 nx:St→Hp→Prop
 rt:VK
 bk:St→Hp→Prop:=fun _ _=>False
 ct:St→Hp→Prop:=fun _ _=>False
abbrev TS:=Ends→St→Hp→Prop
def EP (X:Cx) (pins:List (Addr × Obj)) (σ:St) (Q:VK) (u:Value) (s':Shared):Prop:=∃ v H',Inv X pins σ H' s'∧RelV v u∧Q v H'
def TP (X:Cx) (pins:List (Addr × Obj)) (σ:St) (Q:Bool→Hp→Prop) (b:Bool) (s':Shared):Prop:=∃ H',Inv X pins σ H' s'∧Q b H'
def AP (X:Cx) (pins:List (Addr × Obj)) (σ:St) (Q:List V→Hp→Prop) (us:List Value) (s':Shared):Prop:=∃ vs H',Inv X pins σ H' s'∧Vals vs us∧Q vs H'
def SP (X:Cx) (pins:List (Addr × Obj)) (D:Ends) (f:Flow) (s':Shared):Prop :=
 match f with
 | .next=>∃ σ' H',Inv X pins σ' H' s'∧D.nx σ' H'
 | .brk=>∃ σ' H',Inv X pins σ' H' s'∧D.bk σ' H'
 | .cont=>∃ σ' H',Inv X pins σ' H' s'∧D.ct σ' H'
 | .ret u=>∃ v σ' H',Inv X pins σ' H' s'∧RelV v u∧D.rt v H'
def PE (X:Cx) (e:Expr) (t:TE):Prop :=
 ∀ (pins:List (Addr × Obj)) (s:Shared) (σ:St) (H:Hp) (Q:VK),Inv X pins σ H s→t σ H Q→wpAny (model X.prog X.w) X.A (eval e X.env) (EP X pins σ Q) X.xe s
def PT (X:Cx) (e:Expr) (t:TT):Prop :=
 ∀ (pins:List (Addr × Obj)) (s:Shared) (σ:St) (H:Hp) (Q:Bool→Hp→Prop),Inv X pins σ H s→t σ H Q→wpAny (model X.prog X.w) X.A (isTrue e X.env (eval e X.env)) (TP X pins σ Q) X.xe s
def PW (X:Cx) (e:Expr) (t:TT):Prop :=
 ∀ (whole:Sem Value) (pins:List (Addr × Obj)) (s:Shared) (σ:St) (H:Hp) (Q:Bool→Hp→Prop),Inv X pins σ H s→t σ H Q→wpAny (model X.prog X.w) X.A (isTrue e X.env whole) (TP X pins σ Q) X.xe s
theorem PW.pt {X:Cx}{e:Expr}{t:TT} (h:PW X e t):PT X e t:=h _
def PA (X:Cx) (es:List Expr) (t:TA):Prop :=
 ∀ (pos:Pos) (pins:List (Addr × Obj)) (s:Shared) (σ:St) (H:Hp) (Q:List V→Hp→Prop),Inv X pins σ H s→t σ H Q→wpAny (model X.prog X.w) X.A (spliced (backTo pos (starEach es X.env))) (AP X pins σ Q) X.xe s
def PS (X:Cx) (st:Stmt) (t:TS):Prop :=
 ∀ (pins:List (Addr × Obj)) (s:Shared) (σ:St) (H:Hp) (D:Ends),Inv X pins σ H s→t D σ H→wpAny (model X.prog X.w) X.A (exec st X.env) (SP X pins D) X.xe s
def PSs (X:Cx) (st:List Stmt) (t:TS):Prop :=
 ∀ (pins:List (Addr × Obj)) (s:Shared) (σ:St) (H:Hp) (D:Ends),Inv X pins σ H s→t D σ H→wpAny (model X.prog X.w) X.A (execs st X.env) (SP X pins D) X.xe s
theorem thn {α:Type}{t:Sem α}{Q Q':α→Shared→Prop}{M:Model}{A:Around}{E:Value→Shared→Prop}{s:Shared} (h:wpAny M A t Q E s) (hQ:∀ a s,Q a s→Q' a s):wpAny M A t Q' E s:=wpAny_mono h hQ fun _ _ x=>x
end L2
namespace L2
open PySem PySem.Spec PyProof.Rows
section
variable {X:Cx}
def tVar (i:Nat):TE:=fun σ H Q=>∃ v,σ[i]?=some (some v)∧Q v H
def tC (v:V):TE:=fun _ H Q=>Q v H
theorem pe_var {i:Nat}{x:Str}{pos:Pos} (hN:X.N[i]?=some x) (hv:Vis X.env.scope x) (hd:(x == ("__debug__":Str))=false:=by decide) (hcd:(x == ("__classdict__":Str))=false:=by decide):PE X (.Name x pos) (tVar i):=by
 intro pins s σ H Q I h
 obtain ⟨v,e,h⟩:=h
 obtain ⟨m,hn,hl⟩:=I.loc
 obtain ⟨u,r,l⟩:=hl i x v hN e hv
 have fin:EP X pins σ Q u s:=⟨v,H,I,r,h⟩
 rcases l with ⟨hk,hm⟩ | ⟨hk,c,hc,hcell⟩
 ·exact wpAny_Name (wpAny_loadName_local I.ok.kind hk hn hm fin) hd
 ·rcases hk with hk | hk
  ·exact wpAny_Name (wpAny_loadName_cell I.ok.kind hk hc hcell fin) hd
  ·exact wpAny_Name (wpAny_loadName_free I.ok.kind hk hc hcell fin hcd) hd
theorem pe_int {i j pos}:PE X (.Constant (.int i) j pos) (tC (.int i)):=fun _ _ _ H _ I h=>wpAny_Constant_int ⟨.int i,H,I.tok _,⟨_,rfl⟩,h⟩
theorem pe_bl {b j pos}:PE X (.Constant (.bool b) j pos) (tC (.bl b)):=fun _ _ _ H _ I h=>Constant_bool ⟨.bl b,H,I,rfl,h⟩
theorem pe_non {j pos}:PE X (.Constant .none j pos) (tC .non):=fun _ _ _ H _ I h=>Constant_none ⟨.non,H,I,rfl,h⟩
theorem pe_str {x j pos}:PE X (.Constant (.str x) j pos) (tC (.str x)):=fun _ _ _ H _ I h=>Calls.Constant_str ⟨.str x,H,I.tok _,⟨_,rfl⟩,h⟩
def Gl (X:Cx) (x:Str):Prop:=X.env.kindOf x=some .globalImplicit
theorem ld_glob {E:Value→Shared→Prop}{pins:List (Addr × Obj)}{s:Shared}{σ:St}{H:Hp}{x:Str}{u:Value}{pos:Pos}{Q:Value→Shared→Prop} (I:Inv X pins σ H s) (hg:Gl X x) (hm:X.mg x=some u) (h:Q u s)
  (hd:(x == ("__debug__":Str))=false:=by decide):wpAny (model X.prog X.w) X.A (eval (.Name x pos) X.env) Q E s :=
 Calls.Name_function_global I.ok.kind hg (Calls.loadGlobal_global (by rw [I.ok.glob];exact I.mod.glob.keeps I.bk) hm h) hd
theorem ld_blt {E:Value→Shared→Prop}{pins:List (Addr × Obj)}{s:Shared}{σ:St}{H:Hp}{x:Str}{u:Value}{pos:Pos}{Q:Value→Shared→Prop} (I:Inv X pins σ H s) (hg:Gl X x) (hm:X.mg x=none) (hv:bootBuiltins x=some u) (h:Q u s)
  (hn:x≠"__name__":=by decide) (hd:(x == ("__debug__":Str))=false:=by decide):wpAny (model X.prog X.w) X.A (eval (.Name x pos) X.env) Q E s:=by
 obtain ⟨mb,h1,h2⟩:=I.mod.blt
 exact Calls.Name_function_global I.ok.kind hg (Calls.loadGlobal_builtin (by rw [I.ok.glob];exact I.mod.glob.keeps I.bk) hm (by rw [I.ok.blt];exact h1.keeps I.bk) ((h2 x hn).trans hv) h) hd
theorem pe_glob {x:Str}{v:V}{u:Value}{pos:Pos} (hg:Gl X x) (hm:X.mg x=some u) (r:RelV v u) (hd:(x == ("__debug__":Str))=false:=by decide):PE X (.Name x pos) (tC v) :=
 fun _ _ _ H _ I h=>ld_glob I hg hm ⟨v,H,I,r,h⟩ hd
variable {a b:Expr}{ta tb:TE}{pos:Pos}
def PC (X:Cx) (op:CmpOp) (a b:Expr) (t:TE):Prop :=
 ∀ (pins:List (Addr × Obj)) (s:Shared) (σ:St) (H:Hp) (Q:VK),Inv X pins σ H s→t σ H Q →
  wpAny (model X.prog X.w) X.A (eval a X.env) (fun v s₁=>wpAny (model X.prog X.w) X.A (eval b X.env) (fun u s₂=>wpAny (model X.prog X.w) X.A (compareOp op v u) (EP X pins σ Q) X.xe s₂) X.xe s₁) X.xe s
theorem nobehind (b:Expr) {op:CmpOp} (h:op≠.In) (h2:op≠.NotIn):behindInMarks op b=false:=by
 have e1:(op == CmpOp.In)=false:=by cases op<;>first | rfl | exact absurd rfl h
 have e2:(op == CmpOp.NotIn)=false:=by cases op<;>first | rfl | exact absurd rfl h2
 cases b<;>simp [behindInMarks,e1,e2]
def tIsN (ta:TE):TE:=fun σ H Q=>ta σ H fun x H1=>Q (.bl (decide (x=.non))) H1
theorem RelV.none_iff {x:V}{v:Value} (r:RelV x v):(v == Value.none)=decide (x=.non):=by
 cases x with
 | non=>cases r;rfl
 | bl _=>cases r;rfl
 | int _=>obtain ⟨t,rfl⟩:=r;rfl
 | str _=>obtain ⟨t,rfl⟩:=r;rfl
 | byt _=>obtain ⟨t,rfl⟩:=r;rfl
 | flt _=>obtain ⟨t,rfl⟩:=r;rfl
 | ref _=>cases r;rfl
 | ty _=>cases r;rfl
theorem pc_isN {j pos'} (ha:PE X a ta):PC X .Is a (.Constant .none j pos') (tIsN ta):=by
 intro pins s σ H Q I h
 refine thn (ha pins s σ H _ I h) fun v s1 ⟨x,H1,I1,r1,q1⟩=>?_
 exact Constant_none (is_none_gen ⟨.bl _,H1,I1,by rw [r1.none_iff];rfl,q1⟩)
def tB (t:TE):TT:=fun σ H Q=>t σ H fun x H1=>∃ c,x=.bl c∧Q c H1
theorem pe_cmp {op:CmpOp}{t:TE} (h:PC X op a b t) (h1:behindInMarks op b=false:=by first | exact nobehind _ (by decide) (by decide) | rfl):PE X (.Compare a [op] [b] pos) t:=fun pins s σ H Q I hw=>wpAny_Compare1 (h pins s σ H Q I hw) h1
theorem pt_cmp {op:CmpOp}{t:TE} (h:PC X op a b t) (h1:behindInMarks op b=false:=by first | exact nobehind _ (by decide) (by decide) | rfl):PT X (.Compare a [op] [b] pos) (tB t):=by
 intro pins s σ H Q I hw
 refine wpAny_isTrue_Compare1 (thn (h pins s σ H _ I hw) fun v s1 h1=>thn h1 fun u s2 h2=>thn h2 fun c s3 ⟨x,H1,I1,r1,q1⟩=>?_) h1
 obtain ⟨d,rfl,q⟩:=q1
 cases r1
 exact wpAny_truthy_bool ⟨H1,I1,q⟩
theorem pt_val {e:Expr}{t:TE} (h:PE X e t) (he:∀ whole,isTrue e X.env whole=(do let v ← whole;standAt e.pos;holding [v] (truthy v)):=by intro _;rfl):PT X e (tB t):=by
 intro pins s σ H Q I hw
 refine isTrue_plain (thn (h pins s σ H _ I hw) fun v s1 ⟨x,H1,I1,r1,q1⟩=>?_) (he _)
 obtain ⟨d,rfl,q⟩:=q1
 cases r1
 exact wpAny_truthy_bool ⟨H1,I1,q⟩
variable {tA tB':TT}{rest:List Expr}
def tAnd (t u:TT):TT:=fun σ H Q=>t σ H fun c H1=>if c=true then u σ H1 Q else Q false H1
def tOr (t u:TT):TT:=fun σ H Q=>t σ H fun c H1=>if c=true then Q true H1 else u σ H1 Q
def tNot (t:TT):TT:=fun σ H Q=>t σ H fun c H1=>Q (!c) H1
theorem pw_and1 (ha:PT X a tA):PW X (.BoolOp .And [a] pos) tA:=by
 intro wh pins s σ H Q I h
 refine isTrue_and (thn (ha pins s σ H Q I h) fun c s1 e=>?_)
 cases c with
 | true=>exact isTrue_and_nil e
 | false=>exact e
theorem pw_or1 (ha:PT X a tA):PW X (.BoolOp .Or [a] pos) tA:=by
 intro wh pins s σ H Q I h
 refine isTrue_or (thn (ha pins s σ H Q I h) fun c s1 e=>?_)
 cases c with
 | false=>exact isTrue_or_nil e
 | true=>exact e
theorem pw_and (ha:PT X a tA) (hb:PW X (.BoolOp .And (b::rest) pos) tB'):PW X (.BoolOp .And (a::b::rest) pos) (tAnd tA tB'):=by
 intro wh pins s σ H Q I h
 refine isTrue_and (thn (ha pins s σ H _ I h) fun c s1 ⟨H1,I1,q1⟩=>?_)
 cases c with
 | true=>exact hb wh pins s1 σ H1 Q I1 q1
 | false=>exact ⟨H1,I1,q1⟩
theorem pw_or (ha:PT X a tA) (hb:PW X (.BoolOp .Or (b::rest) pos) tB'):PW X (.BoolOp .Or (a::b::rest) pos) (tOr tA tB'):=by
 intro wh pins s σ H Q I h
 refine isTrue_or (thn (ha pins s σ H _ I h) fun c s1 ⟨H1,I1,q1⟩=>?_)
 cases c with
 | true=>exact ⟨H1,I1,q1⟩
 | false=>exact hb wh pins s1 σ H1 Q I1 q1
theorem pt_not (ha:PT X a tA):PT X (.UnaryOp .Not a pos) (tNot tA):=by
 intro pins s σ H Q I h
 exact isTrue_not (ha pins s σ H (fun c H1=>Q (!c) H1) I h)
def tOrV (ta tb:TE):TE:=fun σ H Q=>ta σ H fun x H1=>∃ c,x=.bl c∧if c=true then Q (.bl true) H1 else tb σ H1 Q
theorem pe_one {op}{t:TE} (h:PE X a t):PE X (.BoolOp op [a] pos) t:=fun pins s σ H Q I hw=>BoolOp_one (h pins s σ H Q I hw)
theorem pe_or (ha:PE X a ta) (hb:PE X (.BoolOp .Or (b::rest) pos) tb):PE X (.BoolOp .Or (a::b::rest) pos) (tOrV ta tb):=by
 intro pins s σ H Q I h
 refine BoolOp_or (thn (ha pins s σ H _ I h) fun v s1 ⟨x,H1,I1,r1,q1⟩=>?_)
 obtain ⟨c,rfl,q1⟩:=q1
 cases r1
 refine wpAny_truthy_bool ?_
 cases c with
 | false=>exact hb pins s1 σ H1 Q I1 q1
 | true=>exact ⟨.bl true,H1,I1,rfl,q1⟩
def tIf (t:TT) (ta tb:TE):TE:=fun σ H Q=>t σ H fun c H1=>if c=true then ta σ H1 Q else tb σ H1 Q
theorem pe_ifExp {c:Expr} (hc:PT X c tA) (ha:PE X a ta) (hb:PE X b tb):PE X (.IfExp c a b pos) (tIf tA ta tb):=by
 intro pins s σ H Q I h
 refine wpAny_IfExp (thn (hc pins s σ H _ I h) fun d s1 ⟨H1,I1,q1⟩=>?_)
 cases d with
 | true=>exact ha pins s1 σ H1 Q I1 q1
 | false=>exact hb pins s1 σ H1 Q I1 q1
end
end L2
namespace L2
open PySem PySem.Spec PyProof.Rows
def SqL (K:PySem.W.Frag) (H:Hp) (a:Addr) (xs:List V):Prop :=
 Rd H a (.lst xs) ∨
  ∃ (o:Obj) (its:Array Value) (n:Nat),K.lookup a=some o∧o.cls=.type "list"∧o.dict=none∧o.data=.seq its n∧its.size≤sizeLine∧Vals xs its.toList
def SqT (K:PySem.W.Frag) (H:Hp) (a:Addr) (xs:List V):Prop :=
 Rd H a (.tup xs) ∨
  ∃ (o:Obj) (its:Array Value) (n:Nat),K.lookup a=some o∧o.cls=.type "tuple"∧o.data=.seq its n∧its.size≤sizeLine∧Vals xs its.toList
def absV:Value→Option V
 | .none=>some .non
 | .bool b=>some (.bl b)
 | .int i _=>some (.int i)
 | .str x _=>some (.str x)
 | .bytes b _=>some (.byt b)
 | .float b _=>some (.flt b)
 | .ref a=>some (.ref a)
 | .type n=>some (.ty n)
 | _=>none
theorem RelV.abs {x:V}{u:Value} (r:RelV x u):absV u=some x:=by
 cases x with
 | non=>cases r;rfl
 | bl _=>cases r;rfl
 | int _=>obtain ⟨t,rfl⟩:=r;rfl
 | str _=>obtain ⟨t,rfl⟩:=r;rfl
 | byt _=>obtain ⟨t,rfl⟩:=r;rfl
 | flt _=>obtain ⟨t,rfl⟩:=r;rfl
 | ref _=>cases r;rfl
 | ty _=>cases r;rfl
theorem RelV.inj {x y:V}{u:Value} (r:RelV x u) (q:RelV y u):x=y:=Option.some.inj (r.abs.symm.trans q.abs)
theorem Vals.inj:∀ {xs ys:List V}{us:List Value},Vals xs us→Vals ys us→xs=ys
 | _,_,_,.nil,.nil=>rfl
 | _,_,_,.cons r t,.cons r' t'=>by rw [r.inj r',Vals.inj t t']
section
variable {X:Cx}{pins:List (Addr × Obj)}{σ:St}{H:Hp}{s:Shared}{a:Addr}{xs ys:List V}
theorem SqL.of {K:PySem.W.Frag} (h:H a=some (.lst xs)):SqL K H a xs:=.inl (.inl h)
theorem Inv.list (I:Inv X pins σ H s) (h:SqL X.K H a xs):∃ its:List Value,Vals xs its∧PlainL s.heap a its.toArray∧xs.length≤sizeLine:=by
 rcases h with h | ⟨o,its,n,hk,hc,hd,hs,hz,r⟩
 ·obtain ⟨z,its,n,r,e⟩:=h.ok I.hok
  exact ⟨its,r,⟨_,n,e,rfl,rfl,rfl⟩,z⟩
 ·refine ⟨its.toList,r,⟨o,n,I.kIn a o hk,hc,hd,by simpa using hs⟩,?_⟩
  have e:=r.length
  simp only [Array.length_toList] at e
  omega
theorem Inv.tuple (I:Inv X pins σ H s) (h:SqT X.K H a xs):∃ its:List Value,Vals xs its∧IsTup s.heap a its.toArray∧xs.length≤sizeLine:=by
 rcases h with h | ⟨o,its,n,hk,hc,hs,hz,r⟩
 ·obtain ⟨z,its,r,p⟩:=h.ok I.hok
  exact ⟨its,r,p,z⟩
 ·refine ⟨its.toList,r,⟨o,I.kIn a o hk,hc,n,by simpa using hs⟩,?_⟩
  have e:=r.length
  simp only [Array.length_toList] at e
  omega
theorem Inv.list_inj (I:Inv X pins σ H s) (h:SqL X.K H a xs) (h':SqL X.K H a ys):xs=ys:=by
 obtain ⟨its,r,⟨o,n,e,_,_,d⟩,_⟩:=I.list h
 obtain ⟨its',r',⟨o',n',e',_,_,d'⟩,_⟩:=I.list h'
 rw [e] at e';cases e'
 rw [d] at d'
 injection d' with d1 _
 have:its=its':=by simpa using congrArg Array.toList d1
 subst this
 exact r.inj r'
end
abbrev Cx.wish (X:Cx) (E:Value→Shared→Prop):Cx:={ X with xe:=E }
abbrev Cx.nox (X:Cx):Cx:=X.wish fun _ _=>False
theorem Cx.Ok.wish {X:Cx} (ok:X.Ok) (E:Value→Shared→Prop):(X.wish E).Ok :=
 ⟨ok.mod,ok.kind,ok.glob,ok.blt,ok.above,ok.inj,ok.has,ok.cab,ok.hd,ok.frames,ok.stk,ok.exf,ok.bs,ok.bsz,ok.noex,ok.exfs,ok.funs,ok.frf⟩
theorem Cx.Ok.unwish {X:Cx}{E:Value→Shared→Prop} (ok:(X.wish E).Ok):X.Ok :=
 ⟨ok.mod,ok.kind,ok.glob,ok.blt,ok.above,ok.inj,ok.has,ok.cab,ok.hd,ok.frames,ok.stk,ok.exf,ok.bs,ok.bsz,ok.noex,ok.exfs,ok.funs,ok.frf⟩
section
variable {X:Cx}{pins:List (Addr × Obj)}{σ:St}{H:Hp}{s:Shared}{E:Value→Shared→Prop}
theorem Inv.wish (I:Inv X pins σ H s) (E:Value→Shared→Prop):Inv (X.wish E) pins σ H s:=⟨I.ok.wish E,I.os,I.bare,I.base,I.loc,I.cell,I.free,I.freeC,I.pin,I.hok,I.len⟩
theorem Inv.unwish (I:Inv (X.wish E) pins σ H s):Inv X pins σ H s:=⟨I.ok.unwish,I.os,I.bare,I.base,I.loc,I.cell,I.free,I.freeC,I.pin,I.hok,I.len⟩
theorem SP.unwish {D:Ends}{f:Flow}{s':Shared} (h:SP (X.wish E) pins D f s'):SP X pins D f s':=by
 cases f with
 | next=>obtain ⟨σ',H',I,q⟩:=h;exact ⟨σ',H',I.unwish,q⟩
 | brk=>obtain ⟨σ',H',I,q⟩:=h;exact ⟨σ',H',I.unwish,q⟩
 | cont=>obtain ⟨σ',H',I,q⟩:=h;exact ⟨σ',H',I.unwish,q⟩
 | ret u=>obtain ⟨v,σ',H',I,r,q⟩:=h;exact ⟨v,σ',H',I.unwish,r,q⟩
theorem PSs.nox {st:List Stmt}{t:TS} (h:PSs X.nox st t):PSs X st t:=fun pins s σ H D I hw =>
 wpAny_mono (h pins s σ H D (I.wish _) hw) (fun _ _ q=>q.unwish) fun _ _ z=>False.elim z
end
section
variable {X:Cx}{st:Stmt}{rest:List Stmt}{t u:TS}{e:Expr}{te:TE}{pos:Pos}
def tNext:TS:=fun D σ H=>D.nx σ H
def tSeq (t u:TS):TS:=fun D σ H=>t { D with nx:=u D } σ H
theorem pss_nil:PSs X [] tNext:=fun _ _ σ H _ I h=>wpAny_execs_nil ⟨σ,H,I,h⟩
theorem pss_cons (h1:PS X st t) (h2:PSs X rest u):PSs X (st::rest) (tSeq t u):=by
 intro pins s σ H D I h
 refine wpAny_execs_cons (thn (h1 pins s σ H { D with nx:=u D } I h) fun f s1 q=>?_)
 cases f with
 | next =>
  obtain ⟨σ',H',I',q⟩:=q
  exact h2 pins s1 σ' H' D I' q
 | ret v=>exact q
 | brk=>exact q
 | cont=>exact q
theorem pss_one (h1:PS X st t):PSs X [st] t:=by
 intro pins s σ H D I h
 refine wpAny_execs_cons (thn (h1 pins s σ H D I h) fun f s1 q=>?_)
 cases f with
 | next=>exact wpAny_execs_nil q
 | ret v=>exact q
 | brk=>exact q
 | cont=>exact q
theorem Inv.quiet {pins:List (Addr × Obj)}{σ:St}{H:Hp}{s:Shared} (I:Inv X pins σ H s):interactive X.env=false:=by simp [interactive,I.ok.kind]
def tDrop (te:TE):TS:=fun D σ H=>te σ H fun _ H1=>D.nx σ H1
theorem ps_expr (he:PE X e te) (hs:swapsWith e none pos.line X.env=pure false:=by rfl):PS X (.Expr e pos) (tDrop te):=by
 intro pins s σ H D I h
 exact wpAny_Expr_any (thn (he pins s σ H _ I h) fun v s1 ⟨x,H1,I1,r1,q1⟩=>⟨σ,H1,I1,q1⟩) I.quiet hs
def tRet (te:TE):TS:=fun D σ H=>te σ H D.rt
theorem ps_ret (he:PE X e te):PS X (.Return (some e) pos) (tRet te):=by
 intro pins s σ H D I h
 exact wpAny_Return_some (thn (he pins s σ H _ I h) fun v s1 ⟨x,H1,I1,r1,q1⟩=>⟨x,σ,H1,I1,r1,q1⟩)
def tRetN:TS:=fun D _ H=>D.rt .non H
theorem ps_retN:PS X (.Return none pos) tRetN:=fun _ _ σ H _ I h=>wpAny_Return_none ⟨.non,σ,H,I,rfl,h⟩
def tIfS (c:TT) (t u:TS):TS:=fun D σ H=>c σ H fun b H1=>if b=true then t D σ H1 else u D σ H1
theorem ps_if {c:Expr}{a b:List Stmt}{tc:TT} (hc:PT X c tc) (ha:PSs X a t) (hb:PSs X b u):PS X (.If c a b pos) (tIfS tc t u):=by
 intro pins s σ H D I h
 refine wpAny_If (thn (hc pins s σ H _ I h) fun d s1 ⟨H1,I1,q1⟩=>?_)
 cases d with
 | true=>exact ha pins s1 σ H1 D I1 q1
 | false=>exact hb pins s1 σ H1 D I1 q1
def tNever:TS:=fun _ _ _=>False
theorem ps_never:PS X st tNever:=fun _ _ _ _ _ _ h=>h.elim
end
abbrev TG:=V→St→Hp→(St→Hp→Prop)→Prop
abbrev TGs:=List V→St→Hp→(St→Hp→Prop)→Prop
def PG (X:Cx) (target:Expr) (t:TG):Prop :=
 ∀ (pins:List (Addr × Obj)) (s:Shared) (σ:St) (H:Hp) (v:V) (u:Value) (Q:St→Hp→Prop),Inv X pins σ H s→RelV v u→t v σ H Q →
  wpAny (model X.prog X.w) X.A (assign target X.env u) (fun _ s'=>∃ σ' H',Inv X pins σ' H' s'∧Q σ' H') X.xe s
def PGs (X:Cx) (ts:List Expr) (t:TGs):Prop :=
 ∀ (pins:List (Addr × Obj)) (s:Shared) (σ:St) (H:Hp) (vs:List V) (us:List Value) (Q:St→Hp→Prop),Inv X pins σ H s→Vals vs us→t vs σ H Q →
  wpAny (model X.prog X.w) X.A (assignInOrder ((assignEach ts X.env).map (·.2)) us) (fun _ s'=>∃ σ' H',Inv X pins σ' H' s'∧Q σ' H') X.xe s
abbrev TSet:=V→V→V→Hp→(Hp→Prop)→Prop
def PSet (X:Cx) (t:TSet):Prop :=
 ∀ (pins:List (Addr × Obj)) (s:Shared) (σ:St) (H:Hp) (o i v:V) (ov iv u:Value) (Q:Hp→Prop),Inv X pins σ H s→RelV o ov→RelV i iv→RelV v u→t o i v H Q →
  wpAny (model X.prog X.w) X.A (setItem ov iv u) (fun _ s'=>∃ H',Inv X pins σ H' s'∧Q H') X.xe s
abbrev TIp:=V→V→Hp→VK→Prop
def PIp (X:Cx) (op:Operator) (t:TIp):Prop :=
 ∀ (pins:List (Addr × Obj)) (s:Shared) (σ:St) (H:Hp) (x y:V) (v u:Value) (Q:VK),Inv X pins σ H s→RelV x v→RelV y u→t x y H Q →
  wpAny (model X.prog X.w) X.A (inplaceOp op v u) (EP X pins σ Q) X.xe s
section
variable {X:Cx}{pos:Pos}
def gName (i:Nat):TG:=fun v σ H Q=>Q (σ.set i (some v)) H
theorem pg_name {i:Nat}{x:Str} (hN:X.N.Nodup) (hi:X.N[i]?=some x) (hx:Loc X.env.scope x) (hf:X.fn x=true∨X.env.scope.names.lookup x=some .local:=by first | exact .inl rfl | exact .inr rfl | assumption):PG X (.Name x pos) (gName i):=by
 intro pins s σ H v u Q I r h
 exact wpAny_assign_Name (store_ok I hN hi hx r (fun s' I'=>⟨_,H,I',h⟩) hf)
def gNil:TGs:=fun vs σ H Q=>vs=[]∧Q σ H
def gCons (t:TG) (u:TGs):TGs:=fun vs σ H Q=>∃ v r,vs=v::r∧t v σ H fun σ' H'=>u r σ' H' Q
theorem pgs_nil:PGs X [] gNil:=by
 intro pins s σ H vs us Q I r h
 obtain ⟨e,h⟩:=h
 subst e
 cases r
 exact assignInOrder_nil ⟨σ,H,I,h⟩
theorem pgs_cons {e:Expr}{es:List Expr}{t:TG}{u:TGs} (h1:PG X e t) (h2:PGs X es u)
  (hs:(assignEach (e::es) X.env).map (·.2)=assign e X.env::(assignEach es X.env).map (·.2):=by rfl):PGs X (e::es) (gCons t u):=by
 intro pins s σ H vs us Q I r h
 obtain ⟨v,vr,e1,h⟩:=h
 subst e1
 cases r with
 | cons r rr =>
  rw [hs]
  refine assignInOrder_cons (thn (h1 pins s σ H _ _ _ I r h) fun _ s1 ⟨σ1,H1,I1,q1⟩=>?_)
  exact h2 pins s1 σ1 H1 _ _ Q I1 rr q1
def gTup (K:PySem.W.Frag) (n:Nat) (t:TGs):TG:=fun v σ H Q=>∃ a xs,v=.ref a∧SqT K H a xs∧xs.length=n∧t xs σ H Q
theorem pg_tup {es:List Expr}{k:Nat}{t:TGs}{n:Nat} (hc:X.calm=true) (h:PGs X es t)
  (hn:(assignEach es X.env).length=n:=by rfl) (hst:(assignEach es X.env).findIdx? (·.1)=none:=by rfl):PG X (.Tuple es k pos) (gTup X.K n t):=by
 intro pins s σ H v u Q I r hw
 obtain ⟨a,xs,e1,hq,hl,hw⟩:=hw
 subst e1
 cases r
 obtain ⟨its,rv,ht,hz⟩:=I.tuple hq
 refine assign_Tuple_tuple (I.ok.hd hc) ht (by simp [hn,← hl,rv.length]) hst fun h' hx=>?_
 have I1:Inv X pins σ H { s with heap:=h' }:=I.kept (t':=s.toks) fun b o e=>hx b o (Nat.ne_of_lt (Heap.lt_size e)) e
 exact h pins _ σ H xs _ Q I1 (by simpa using rv) hw
def tAsg (te:TE) (g:TG):TS:=fun D σ H=>te σ H fun x H1=>g x σ H1 D.nx
theorem ps_set {i:Nat}{x:Str}{e:Expr}{te:TE}{pos':Pos} (hN:X.N.Nodup) (hi:X.N[i]?=some x) (hx:Loc X.env.scope x) (he:PE X e te) (hs:swapsWith e (some (.Name x pos')) pos.line X.env=pure false:=by rfl) (hf:X.fn x=true∨X.env.scope.names.lookup x=some .local:=by first | exact .inl rfl | exact .inr rfl | assumption) :
  PS X (.Assign [.Name x pos'] e pos) (tAsg te (gName i)):=by
 intro pins s σ H D I h
 refine wpAny_Assign_Name (thn (he pins s σ H _ I h) fun v s1 ⟨y,H1,I1,r1,q1⟩=>?_) hs
 exact store_ok I1 hN hi hx r1 (fun s2 I2=>⟨_,H1,I2,q1⟩) hf
def tAug (i:Nat) (te:TE) (ti:TIp):TS:=fun D σ H=>∃ x,σ[i]?=some (some x)∧te σ H fun y H1=>ti x y H1 fun z H2=>D.nx (σ.set i (some z)) H2
theorem ps_aug {i:Nat}{x:Str}{e:Expr}{te:TE}{op:Operator}{ti:TIp}{pos':Pos} (hN:X.N.Nodup) (hi:X.N[i]?=some x) (hx:Loc X.env.scope x) (he:PE X e te) (ho:PIp X op ti) (hf:X.fn x=true∨X.env.scope.names.lookup x=some .local:=by first | exact .inl rfl | exact .inr rfl | assumption) :
  PS X (.AugAssign (.Name x pos') op e pos) (tAug i te ti):=by
 intro pins s σ H D I h
 obtain ⟨v,e1,h⟩:=h
 obtain ⟨m,hn,hl⟩:=I.loc
 have vis:Vis X.env.scope x:=by rcases hx with k | k;exact .inl k;exact .inr (.inl k)
 obtain ⟨u,r,l⟩:=hl i x v hi e1 vis
 refine wpAny_AugAssign_Name ?_
 have go:wpAny (model X.prog X.w) X.A (eval e X.env) (fun w s₂=>wpAny (model X.prog X.w) X.A (inplaceOp op u w) (fun r s₃=>wpAny (model X.prog X.w) X.A (storeName X.env x r) (fun _=>SP X pins D .next) X.xe s₃) X.xe s₂) X.xe s:=by
  refine thn (he pins s σ H _ I h) fun w s1 ⟨y,H1,I1,r1,q1⟩=>?_
  refine thn (ho pins s1 σ H1 v y u w _ I1 r r1 q1) fun z s2 ⟨zv,H2,I2,r2,q2⟩=>?_
  exact store_ok I2 hN hi hx r2 (fun s3 I3=>⟨_,H2,I3,q2⟩) hf
 rcases l with ⟨hk,hm⟩ | ⟨hk,c,hc,hcell⟩
 ·exact wpAny_loadName_local I.ok.kind hk hn hm go
 ·rcases hk with hk | hk
  ·exact wpAny_loadName_cell I.ok.kind hk hc hcell go
  ·rcases hx with k | k
   ·have:X.env.scope.names.lookup x=some .free:=hk
    rw [k] at this;cases this
   ·have:X.env.scope.names.lookup x=some .free:=hk
    rw [k] at this;cases this
def tAugS (to ti te:TE) (tget:V→V→Hp→VK→Prop) (tip:TIp) (tset:TSet):TS:=fun D σ H=>to σ H fun o H1=>ti σ H1 fun i H2=>tget o i H2 fun x H3=>te σ H3 fun y H4=>tip x y H4 fun z H5=>tset o i z H5 fun H6=>D.nx σ H6
def PGet (X:Cx) (t:V→V→Hp→VK→Prop):Prop :=
 ∀ (pins:List (Addr × Obj)) (s:Shared) (σ:St) (H:Hp) (o i:V) (ov iv:Value) (Q:VK),Inv X pins σ H s→RelV o ov→RelV i iv→t o i H Q →
  wpAny (model X.prog X.w) X.A (getItem ov iv) (EP X pins σ Q) X.xe s
theorem ps_augS {o i e:Expr}{to ti te:TE}{tget:V→V→Hp→VK→Prop}{tip:TIp}{tset:TSet}{op:Operator}{tpos:Pos} (ho:PE X o to) (hi:PE X i ti) (hg:PGet X tget) (he:PE X e te) (hp:PIp X op tip) (hs:PSet X tset)
  (ha:∀ ov iv new,augStore i ov iv new=(do holding [new,ov,iv] (setItem ov iv new);release [new,ov,iv] [];pure .next):=by intros;rfl):PS X (.AugAssign (.Subscript o i tpos) op e pos) (tAugS to ti te tget tip tset):=by
 intro pins s σ H D I h
 refine wpAny_AugAssign_SubscriptAny (thn (ho pins s σ H _ I h) fun ov s1 ⟨x1,H1,I1,r1,q1⟩=>?_) ha
 refine thn (hi pins s1 σ H1 _ I1 q1) fun iv s2 ⟨x2,H2,I2,r2,q2⟩=>?_
 refine thn (hg pins s2 σ H2 x1 x2 ov iv _ I2 r1 r2 q2) fun old s3 ⟨x3,H3,I3,r3,q3⟩=>?_
 refine thn (he pins s3 σ H3 _ I3 q3) fun v s4 ⟨x4,H4,I4,r4,q4⟩=>?_
 refine thn (hp pins s4 σ H4 x3 x4 old v _ I4 r3 r4 q4) fun new s5 ⟨x5,H5,I5,r5,q5⟩=>?_
 exact thn (hs pins s5 σ H5 x1 x2 x5 ov iv new _ I5 r1 r2 r5 q5) fun _ s6 ⟨H6,I6,q6⟩=>⟨σ,H6,I6,q6⟩
def ipI (f:Int→Int→Int):TIp:=fun x y H Q=>∃ i j,x=.int i∧y=.int j∧Q (.int (f i j)) H
theorem ip_add:PIp X .Add (ipI fun i j=>i+j):=by
 intro pins s σ H x y v u Q I r1 r2 h
 obtain ⟨i,j,e1,e2,q⟩:=h
 subst e1;subst e2
 obtain ⟨t,rfl⟩:=r1
 obtain ⟨t',rfl⟩:=r2
 exact iadd_int ⟨.int _,H,I.tok _,⟨_,rfl⟩,q⟩
theorem ip_sub:PIp X .Sub (ipI fun i j=>i - j):=by
 intro pins s σ H x y v u Q I r1 r2 h
 obtain ⟨i,j,e1,e2,q⟩:=h
 subst e1;subst e2
 obtain ⟨t,rfl⟩:=r1
 obtain ⟨t',rfl⟩:=r2
 exact isub_int ⟨.int _,H,I.tok _,⟨_,rfl⟩,q⟩
end
section
variable {X:Cx}{pos:Pos}
def tWhile (c:TT) (tb:TS):TS:=fun D σ H=>∃ W:Nat→St→Hp→Prop,(∃ m,W m σ H)∧∀ m σ H,W m σ H →
 c σ H fun b H1=>if b=true then ∃ N:St→Hp→Prop,(∀ σ' H',N σ' H'→∃ m',m'<m∧W m' σ' H')∧tb { D with nx:=N,ct:=N,bk:=D.nx } σ H1 else D.nx σ H1
theorem ps_while {c:Expr}{body:List Stmt}{tc:TT}{tb:TS} (hp:PassesOwn (model X.prog X.w) X.A X.env X.xe) (hc:PT X c tc) (hb:PSs X body tb):PS X (.While c body [] pos) (tWhile tc tb):=by
 intro pins s σ H D I h
 obtain ⟨W,⟨m0,w0⟩,turn⟩:=h
 refine wpAny_While (codeAny_whileLoop (fun n s'=>∃ σ' H',Inv X pins σ' H' s'∧W n σ' H') ?_ m0 ⟨σ,H,I,w0⟩)
 rintro n s1 ⟨σ1,H1,I1,w1⟩
 refine wpAny_passesOwn hp (thn (hc pins s1 σ1 H1 _ I1 (turn n σ1 H1 w1)) fun b s2 ⟨H2,I2,q2⟩=>?_)
 cases b with
 | true =>
  obtain ⟨N,hN,q2⟩:=q2
  rw [if_pos rfl]
  refine wpAny_passesOwn hp (thn (hb pins s2 σ1 H2 _ I2 q2) fun f s3 q3=>?_)
  cases f with
  | next =>
   obtain ⟨σ3,H3,I3,n3⟩:=q3
   obtain ⟨m',hm,w3⟩:=hN σ3 H3 n3
   exact ⟨m',hm,σ3,H3,I3,w3⟩
  | cont =>
   obtain ⟨σ3,H3,I3,n3⟩:=q3
   obtain ⟨m',hm,w3⟩:=hN σ3 H3 n3
   exact ⟨m',hm,σ3,H3,I3,w3⟩
  | brk=>exact q3
  | ret v=>exact q3
 | false =>
  rw [if_neg Bool.false_ne_true]
  exact wpAny_execs_nil ⟨σ1,H2,I2,q2⟩
end
structure It where
 go:Nat→Hp→Prop
 yld:Nat→Hp→V→Hp→Prop
 stop:Nat→Hp→Prop
def FpOk (X:Cx) (pins:List (Addr × Obj)) (H:Hp) (b:Addr):Prop :=
 H b=none∧b≠X.env.locals∧b∉X.fs∧(b∈X.ex∨X.s_0.heap.objs.size≤b)∧(∀ x c,X.env.cells.lookup x=some c→c≠b)∧∀ p∈X.pn++pins,p.1≠b
theorem Inv.fpOk {X:Cx}{pins:List (Addr × Obj)}{σ:St}{H H':Hp}{s:Shared}{b:Addr} (I:Inv X pins σ H s) (hb:s.heap.objs.size≤b) (hn:H' b=none):FpOk X pins H' b:=by
 refine ⟨hn,Nat.ne_of_gt (Nat.lt_of_lt_of_le I.lt hb),I.nofs hb,.inr (Nat.le_trans I.sz hb),fun x c e z=>?_,fun p hp z=>?_⟩
 ·obtain ⟨v,q⟩:=I.cell x c e
  exact absurd (Nat.lt_of_lt_of_le q.lt (by rw [z];exact hb)) (Nat.lt_irrefl _)
 ·exact absurd (Nat.lt_of_lt_of_le (Heap.lt_size (I.pin p hp).1) (by rw [z];exact hb)) (Nat.lt_irrefl _)
structure Turn (P:Program) (w:World) (K:PySem.W.Frag) (tg:Expr) (J:It) (fp:List Addr) (it:Addr) (tn:Nat→Heap→Prop):Prop where
 mem:it∈fp
 obj:∀ i h,tn i h→∀ b∈fp,∃ o,h.get? b=some o∧∀ v,o.data≠.cell v
 keep:∀ i h h',tn i h→(∀ b∈fp,∀ o,h.get? b=some o→h'.get? b=some o)→tn i h'
 item:∀ (X:Cx),X.prog=P→X.w=w→X.K=K→X.calm=true→∀ (i:Nat) (pins:List (Addr × Obj)) (s:Shared) (σ:St) (H:Hp) (E:Value→Shared→Prop),Inv X pins σ H s→(∀ b∈fp,FpOk X pins H b)→tn i s.heap→J.go i H →
  wpAny (model P w) X.A (pyNext (.ref it)) (fun r s1=>∃ u,r=some u ∧
   wpAny (model P w) X.A (letOwnedTupleGo tg (.ref it) u) (fun _ s2=>∃ x H',Inv X pins σ H' s2∧RelV x u∧J.yld i H x H'∧tn (i+1) s2.heap∧∀ b∈fp,H' b=none) E s1) E s
 done:∀ (X:Cx),X.prog=P→X.w=w→X.K=K→X.calm=true→∀ (i:Nat) (pins:List (Addr × Obj)) (s:Shared) (σ:St) (H:Hp) (E:Value→Shared→Prop),Inv X pins σ H s→(∀ b∈fp,FpOk X pins H b)→tn i s.heap→J.stop i H →
  wpAny (model P w) X.A (pyNext (.ref it)) (fun r s1=>r=none∧Inv X pins σ H s1) E s
 self:∀ (A:Around) (i:Nat) (s:Shared) (Q:Value→Shared→Prop) (E:Value→Shared→Prop),tn i s.heap→Q (.ref it) s→wpAny (model P w) A (pyIter (.ref it)) Q E s
abbrev TI:=St→Hp→(It→Hp→Prop)→Prop
def PIE (X:Cx) (pins:List (Addr × Obj)) (σ:St) (tg:Expr) (R:It→Hp→Prop) (itv:Value) (s2:Shared):Prop :=
 ∃ (it:Addr) (fp:List Addr) (tn:Nat→Heap→Prop) (J:It) (H':Hp),itv=.ref it∧Inv X pins σ H' s2∧Turn X.prog X.w X.K tg J fp it tn∧tn 0 s2.heap∧(∀ b∈fp,FpOk X pins H' b)∧R J H'
def PI (X:Cx) (tg iter:Expr) (wi:TI):Prop :=
 ∀ (pins:List (Addr × Obj)) (s:Shared) (σ:St) (H:Hp) (R:It→Hp→Prop),Inv X pins σ H s→wi σ H R →
  wpAny (model X.prog X.w) X.A (eval iter X.env) (fun v s1=>wpAny (model X.prog X.w) X.A (pyIter v) (PIE X pins σ tg R) X.xe s1) X.xe s
theorem go_of {M:Model}{A:Around}{E:Value→Shared→Prop}{s:Shared}{tg:Expr}{it:Addr}{u:Value}{o:Obj}{n:String}{vs:Array Value}{Q:Unit→Shared→Prop} (ho:s.heap.get? it=some o) (hc:o.cls=.type n) (hd:o.data=.fields vs)
    (hn:["enumerate","zip","dict_itemiterator","dict_reverseitemiterator","odict_iterator","itertools.zip_longest","itertools.pairwise"].contains n=false) (hQ:Q () s):wpAny M A (letOwnedTupleGo tg (.ref it) u) Q E s:=by
  unfold letOwnedTupleGo
  cases tg<;>first
    | exact wpAny_pure hQ
    | (cases u<;>first
        | exact wpAny_pure hQ
        | (refine wpAny_bind (wpAny_load ho ?_)
           rw [hc,hd]
           show wpAny M A (if (["enumerate","zip","dict_itemiterator","dict_reverseitemiterator","odict_iterator","itertools.zip_longest","itertools.pairwise"].contains n && vs[0]? == some (rawInt _))=true then _ else _) Q E s
           rw [if_neg (by intro h;rw [hn,Bool.false_and] at h;cases h)]
           exact wpAny_pure hQ))
def Itl (K:PySem.W.Frag) (a:Addr):It :=
 ⟨fun i H=>∃ xs x,SqL K H a xs∧xs[i]?=some x,fun i H x H'=>H'=H∧∀ xs,SqL K H a xs→xs[i]?=some x,fun i H=>∃ xs,SqL K H a xs∧xs.length≤i⟩
theorem turn_list {P:Program}{w:World}{K:PySem.W.Frag}{tg:Expr} (a it:Addr):Turn P w K tg (Itl K a) [it] it (fun i h=>h.IsListIter it a i) where
 mem:=by simp
 obj:=fun i h st b hb=>by
  have e:b=it:=by simpa using hb
  subst e
  obtain ⟨o,e,c,d⟩:=st
  exact ⟨o,e,fun v z=>by rw [d] at z;cases z⟩
 keep:=fun i h h' st k=>st.at fun o e=>k it (by simp) o e
 item:=by
  intro X hP hw hK hc i pins s σ H E I hf st hg
  subst hP hw hK
  obtain ⟨xs,x,hq,hx⟩:=hg
  obtain ⟨its,rv,p,hz⟩:=I.list hq
  obtain ⟨u,hu,ru⟩:=rv.get hx
  obtain ⟨f0,f1,f2,f3,f4,f5⟩:=hf it (by simp)
  refine wpAny_pyNext_list_item st p.isList (x:=u) (by simpa using hu) fun h' st' sb=>?_
  have I1:Inv X pins σ H { s with heap:=h' }:=I.turned (t':=s.toks) (fun b o hb e=>(sb.2 b hb).trans e) f0 f1 f3 f4 f5
  obtain ⟨o,e,c,d⟩:=id st'
  exact ⟨u,rfl,go_of (s:={ s with heap:=h' }) e c d (by decide) ⟨x,H,I1,ru,⟨rfl,fun ys hy=>by rw [I.list_inj hy hq];exact hx⟩,st',fun b hb=>(hf b hb).1⟩⟩
 done:=by
  intro X hP hw hK hc i pins s σ H E I hf st hg
  subst hP hw hK
  obtain ⟨xs,hq,hx⟩:=hg
  obtain ⟨its,rv,p,hz⟩:=I.list hq
  obtain ⟨f0,f1,f2,f3,f4,f5⟩:=hf it (by simp)
  have hl:=rv.length
  exact wpAny_pyNext_list_end (I.ok.hd hc) st p.isList (by simp;omega) fun h' eb=>⟨rfl,I.turned (t':=s.toks) (fun b o hb e=>eb b o hb e) f0 f1 f3 f4 f5⟩
 self:=fun _ _ _ _ _ st h=>wpAny_pyIter_listiter st h
end L2
namespace L2
open PySem PySem.Spec PyProof.Rows
section
variable {X:Cx}{tg:Expr}
def iList (K:PySem.W.Frag) (tl:TE):TI:=fun σ H R=>tl σ H fun x H1=>∃ a,x=.ref a∧(∃ xs,SqL K H1 a xs)∧R (Itl K a) H1
theorem pi_list {l:Expr}{tl:TE} (hl:PE X l tl):PI X tg l (iList X.K tl):=by
 intro pins s σ H R I h
 refine thn (hl pins s σ H _ I h) fun v s1 ⟨x,H1,I1,r1,q1⟩=>?_
 obtain ⟨a,e,⟨xs,hq⟩,q⟩:=q1
 subst e
 cases r1
 obtain ⟨its,rv,p,hz⟩:=I1.list hq
 refine wpAny_pyIter_list p.isList ?_
 refine ⟨s1.heap.objs.size,[s1.heap.objs.size],_,_,H1,rfl,I1.kept (t':=s1.toks) fun b o e=>Heap.get?_push_of_some _ e,turn_list a _,⟨_,Heap.get?_push_size _ rfl,rfl,rfl⟩,fun b hb=>?_,q⟩
 have e:b=s1.heap.objs.size:=by simpa using hb
 subst e
 exact I1.fpOk (Nat.le_refl _) (I1.hok.fresh (Nat.le_refl _))
def tFor (wi:TI) (g:TG) (tb:TS):TS:=fun D σ H=>wi σ H fun J H1=>∃ W:Nat→Nat→St→Hp→Prop,(∃ m,W 0 m σ H1)∧∀ i m σ H,W i m σ H →
 (J.stop i H∧D.nx σ H)∨(J.go i H∧∃ N:St→Hp→Prop,(∀ σ' H',N σ' H'→∃ m',m'<m∧W (i+1) m' σ' H')∧∀ x H',J.yld i H x H'→g x σ H' fun σ2 H2=>tb { D with nx:=N,ct:=N,bk:=D.nx } σ2 H2)
def pinsAt (fp:List Addr) (h:Heap):List (Addr × Obj):=fp.filterMap fun b=>(h.get? b).map fun o=>(b,o)
theorem mem_pinsAt {fp:List Addr}{h:Heap}{b:Addr}{o:Obj} (hb:b∈fp) (e:h.get? b=some o):(b,o)∈pinsAt fp h:=List.mem_filterMap.mpr ⟨b,hb,by rw [e];rfl⟩
theorem of_pinsAt {fp:List Addr}{h:Heap}{p:Addr × Obj} (hp:p∈pinsAt fp h):p.1∈fp∧h.get? p.1=some p.2:=by
 obtain ⟨b,hb,e⟩:=List.mem_filterMap.mp hp
 cases q:h.get? b with
 | none=>rw [q] at e;cases e
 | some o =>
  rw [q] at e
  have e':(b,o)=p:=Option.some.inj e
  subst e'
  exact ⟨hb,q⟩
theorem Inv.pinned {pins:List (Addr × Obj)}{σ:St}{H:Hp}{s:Shared}{fp:List Addr} (I:Inv X pins σ H s) (hf:∀ b∈fp,FpOk X pins H b) (ho:∀ b∈fp,∃ o,s.heap.get? b=some o∧∀ v,o.data≠.cell v):Inv X (pins++pinsAt fp s.heap) σ H s :=
 I.pins_of fun p hp=>(List.mem_append.mp hp).elim (fun z=>I.pin p (List.mem_append_right _ z)) fun z=>by
  obtain ⟨hb,e⟩:=of_pinsAt z
  obtain ⟨f0,f1,f2,_⟩:=hf p.1 hb
  obtain ⟨o,e',d⟩:=ho p.1 hb
  rw [e] at e';cases e'
  exact ⟨e,f0,f1,f2,d⟩
theorem Inv.unpinned {pins pl:List (Addr × Obj)}{σ:St}{H:Hp}{s:Shared} (I:Inv X (pins++pl) σ H s):Inv X pins σ H s:=I.pins_of fun p hp=>I.pin p (List.mem_append_right _ (List.mem_append_left _ hp))
theorem ps_for {iter:Expr}{body:List Stmt}{wi:TI}{g:TG}{tb:TS}{pos:Pos} (hp:PassesOwn (model X.prog X.w) X.A X.env X.xe) (hc:X.calm=true) (hi:PI X tg iter wi) (hg:PG X tg g) (hb:PSs X body tb)
  (hs:∀ x,foldedSetIterable iter X.env x=pure x:=by intro _;rfl):PS X (.For tg iter body [] pos) (tFor wi g tb):=by
 intro pins s σ H D I h
 refine wpAny_For (thn (hi pins s σ H _ I h) fun v s1 h1=>thn h1 fun itv s2 h2=>?_) hs
 obtain ⟨it,fp,tn,J,H2,e,I2,T,st2,f2,W,⟨m0,w0⟩,turn⟩:=h2
 subst e
 have stat:∀ {H':Hp},(∀ b∈fp,H' b=none)→∀ b∈fp,FpOk X pins H' b:=fun hn b hb=>⟨hn b hb,(f2 b hb).2⟩
 refine codeAny_forLoop_any (fun n s'=>∃ i σ' H',Inv X pins σ' H' s'∧tn i s'.heap∧(∀ b∈fp,H' b=none)∧W i n σ' H') ?_ m0 ⟨0,σ,H2,I2,st2,fun b hb=>(f2 b hb).1,w0⟩
 rintro n s3 ⟨i,σ3,H3,I3,st3,fr3,w3⟩
 rcases turn i n σ3 H3 w3 with ⟨stop,qn⟩ | ⟨go,N,hN,step⟩
 ·refine wpAny_passesOwn hp (thn (T.done X rfl rfl rfl hc i pins s3 σ3 H3 X.xe I3 (stat fr3) st3 stop) fun r s4 ⟨hr,I4⟩=>?_)
  subst hr
  exact wpAny_execs_nil ⟨σ3,H3,I4,qn⟩
 ·refine wpAny_passesOwn hp (thn (T.item X rfl rfl rfl hc i pins s3 σ3 H3 X.xe I3 (stat fr3) st3 go) fun r s4 ⟨u,hr,h4⟩=>?_)
  subst hr
  refine wpAny_passesOwn hp (thn h4 fun _ s5 ⟨x,H5,I5,r5,y5,st5,fr5⟩=>?_)
  have I5':=I5.pinned (stat fr5) (T.obj _ _ st5)
  refine wpAny_passesOwn hp (thn (hg _ s5 σ3 H5 x u _ I5' r5 (step x H5 y5)) fun _ s6 ⟨σ6,H6,I6,q6⟩=>?_)
  refine wpAny_passesOwn hp (thn (hb _ s6 σ6 H6 _ I6 q6) fun f s7 q7=>?_)
  have again:∀ {σ7:St}{H7:Hp},Inv X (pins++pinsAt fp s5.heap) σ7 H7 s7→N σ7 H7→∃ m,m<n∧∃ i σ' H',Inv X pins σ' H' s7∧tn i s7.heap∧(∀ b∈fp,H' b=none)∧W i m σ' H':=fun {σ7 H7} I7 n7=>by
   obtain ⟨m',hm,w7⟩:=hN σ7 H7 n7
   refine ⟨m',hm,i+1,σ7,H7,I7.unpinned,T.keep _ _ _ st5 fun b hb o e=>(I7.pin (b,o) (List.mem_append_right _ (List.mem_append_right _ (mem_pinsAt hb e)))).1,fun b hb=>?_,w7⟩
   obtain ⟨o,e,d⟩:=T.obj _ _ st5 b hb
   exact (I7.pin (b,o) (List.mem_append_right _ (List.mem_append_right _ (mem_pinsAt hb e)))).2.1
  cases f with
  | next=>obtain ⟨σ7,H7,I7,n7⟩:=q7;exact again I7 n7
  | cont=>obtain ⟨σ7,H7,I7,n7⟩:=q7;exact again I7 n7
  | brk=>obtain ⟨σ7,H7,I7,q7⟩:=q7;exact ⟨σ7,H7,I7.unpinned,q7⟩
  | ret v=>obtain ⟨x7,σ7,H7,I7,r7,q7⟩:=q7;exact ⟨x7,σ7,H7,I7.unpinned,r7,q7⟩
end
theorem for_list {K:PySem.W.Frag}{a:Addr}{xs:List V}{g:TG}{tb:TS}{D:Ends}{σ:St}{H:Hp} (Pv:Nat→St→Hp→Prop) (h0:Pv 0 σ H) (hl:∀ i σ H,i≤xs.length→Pv i σ H→SqL K H a xs)
  (hs:∀ i x σ H,xs[i]?=some x→Pv i σ H→g x σ H fun σ2 H2=>tb { D with nx:=Pv (i+1),ct:=Pv (i+1),bk:=D.nx } σ2 H2) (hd:∀ σ H,Pv xs.length σ H→D.nx σ H) :
  ∃ W:Nat→Nat→St→Hp→Prop,(∃ m,W 0 m σ H)∧∀ i m σ H,W i m σ H →
   ((Itl K a).stop i H∧D.nx σ H)∨((Itl K a).go i H∧∃ N:St→Hp→Prop,(∀ σ' H',N σ' H'→∃ m',m'<m∧W (i+1) m' σ' H')∧∀ x H',(Itl K a).yld i H x H'→g x σ H' fun σ2 H2=>tb { D with nx:=N,ct:=N,bk:=D.nx } σ2 H2):=by
 refine ⟨fun i m σ H=>m=xs.length - i∧i≤xs.length∧Pv i σ H,⟨xs.length,by simp,Nat.zero_le _,h0⟩,?_⟩
 rintro i m σ H ⟨rfl,hi,p⟩
 have q:=hl i σ H hi p
 by_cases hlt:i<xs.length
 ·refine .inr ⟨⟨xs,xs[i],q,by simp [hlt]⟩,Pv (i+1),fun σ' H' p'=>⟨xs.length - (i+1),by omega,rfl,hlt,p'⟩,fun x H' y=>?_⟩
  obtain ⟨e,y⟩:=y
  subst e
  exact hs i x σ _ (y xs q) p
 ·have e:i=xs.length:=by omega
  subst e
  exact .inl ⟨⟨xs,q,Nat.le_refl _⟩,hd σ H p⟩
end L2
namespace L2
open PySem PySem.Spec PyProof.Rows
abbrev R2:=V→V→Hp→VK→Prop
def OpR (X:Cx) (f:Value→Value→Sem Value) (r:R2):Prop :=
 ∀ (pins:List (Addr × Obj)) (s:Shared) (σ:St) (H:Hp) (x y:V) (v u:Value) (Q:VK),Inv X pins σ H s→RelV x v→RelV y u→r x y H Q →
  wpAny (model X.prog X.w) X.A (f v u) (EP X pins σ Q) X.xe s
def UnR (X:Cx) (f:Value→Sem Value) (r:V→Hp→VK→Prop):Prop :=
 ∀ (pins:List (Addr × Obj)) (s:Shared) (σ:St) (H:Hp) (x:V) (v:Value) (Q:VK),Inv X pins σ H s→RelV x v→r x H Q →
  wpAny (model X.prog X.w) X.A (f v) (EP X pins σ Q) X.xe s
def CallR (X:Cx) (f:Value) (r:List V→Hp→VK→Prop):Prop :=
 ∀ (pins:List (Addr × Obj)) (s:Shared) (σ:St) (H:Hp) (xs:List V) (us:List Value) (Q:VK),Inv X pins σ H s→Vals xs us→r xs H Q →
  wpAny (model X.prog X.w) X.A (call f us) (EP X pins σ Q) X.xe s
def tOp (r:R2) (ta tb:TE):TE:=fun σ H Q=>ta σ H fun x H1=>tb σ H1 fun y H2=>r x y H2 Q
def tUn (r:V→Hp→VK→Prop) (ta:TE):TE:=fun σ H Q=>ta σ H fun x H1=>r x H1 Q
def rI (C:Int→Int→Prop) (g:Int→Int→V):R2:=fun x y H Q=>∃ i j,x=.int i∧y=.int j∧C i j∧Q (g i j) H
def rI0 (g:Int→Int→V):R2:=fun x y H Q=>∃ i j,x=.int i∧y=.int j∧Q (g i j) H
def rU (g:Int→V):V→Hp→VK→Prop:=fun x H Q=>∃ i,x=.int i∧Q (g i) H
section
variable {X:Cx}{a b c:Expr}{ta tb tc:TE}{pos:Pos}
theorem binT (ha:PE X a ta) (hb:PE X b tb) {pins:List (Addr × Obj)}{s:Shared}{σ:St}{H:Hp}{R:V→V→Hp→Prop} (I:Inv X pins σ H s)
  (h:ta σ H fun x H1=>tb σ H1 fun y H2=>R x y H2) {Q:Value→Shared→Prop}{f:Value→Value→Sem Value}
  (hf:∀ v u s2 x y H2,Inv X pins σ H2 s2→RelV x v→RelV y u→R x y H2→wpAny (model X.prog X.w) X.A (f v u) Q X.xe s2) :
  wpAny (model X.prog X.w) X.A (eval a X.env) (fun v s₁=>wpAny (model X.prog X.w) X.A (eval b X.env) (fun u s₂=>wpAny (model X.prog X.w) X.A (f v u) Q X.xe s₂) X.xe s₁) X.xe s:=by
 refine thn (ha pins s σ H _ I h) fun v s1 ⟨x,H1,I1,r1,q1⟩=>?_
 refine thn (hb pins s1 σ H1 _ I1 q1) fun u s2 ⟨y,H2,I2,r2,q2⟩=>?_
 exact hf v u s2 x y H2 I2 r1 r2 q2
theorem pe_op {op:Operator}{r:R2} (ho:OpR X (binaryOp op) r) (ha:PE X a ta) (hb:PE X b tb):PE X (.BinOp a op b pos) (tOp r ta tb):=by
 intro pins s σ H Q I h
 exact wpAny_BinOp (binT ha hb I h fun v u s2 x y H2 I2 rx ry q=>ho pins s2 σ H2 x y v u Q I2 rx ry q)
theorem pe_un {op:UnaryOp}{r:V→Hp→VK→Prop} (ho:UnR X (unaryOp op) r) (ha:PE X a ta):PE X (.UnaryOp op a pos) (tUn r ta):=by
 intro pins s σ H Q I h
 exact UnaryOp_ (thn (ha pins s σ H _ I h) fun v s1 ⟨x,H1,I1,r1,q1⟩=>ho pins s1 σ H1 x v Q I1 r1 q1)
theorem opI {f:Value→Value→Sem Value}{C:Int→Int→Prop}{g:Int→Int→Int}
  (rule:∀ (i j:Int) (t u:Tok) (s:Shared) (Q:Value→Shared→Prop) (E:Value→Shared→Prop),C i j→Q (.int (g i j) s.toks) { s with toks:=s.toks+1 }→wpAny (model X.prog X.w) X.A (f (.int i t) (.int j u)) Q E s) :
  OpR X f (rI C fun i j=>.int (g i j)):=by
 intro pins s σ H x y v u Q I rx ry h
 obtain ⟨i,j,rfl,rfl,hc,q⟩:=h
 obtain ⟨t,rfl⟩:=rx
 obtain ⟨t',rfl⟩:=ry
 exact rule i j t t' s _ _ hc ⟨.int (g i j),H,I.tok _,⟨_,rfl⟩,q⟩
theorem opI0 {f:Value→Value→Sem Value}{g:Int→Int→Int}
  (rule:∀ (i j:Int) (t u:Tok) (s:Shared) (Q:Value→Shared→Prop) (E:Value→Shared→Prop),Q (.int (g i j) s.toks) { s with toks:=s.toks+1 }→wpAny (model X.prog X.w) X.A (f (.int i t) (.int j u)) Q E s) :
  OpR X f (rI0 fun i j=>.int (g i j)):=by
 intro pins s σ H x y v u Q I rx ry h
 obtain ⟨i,j,rfl,rfl,q⟩:=h
 obtain ⟨t,rfl⟩:=rx
 obtain ⟨t',rfl⟩:=ry
 exact rule i j t t' s _ _ ⟨.int (g i j),H,I.tok _,⟨_,rfl⟩,q⟩
theorem opB0 {f:Value→Value→Sem Value}{g:Int→Int→Bool}
  (rule:∀ (i j:Int) (t u:Tok) (s:Shared) (Q:Value→Shared→Prop) (E:Value→Shared→Prop),Q (.bool (g i j)) s→wpAny (model X.prog X.w) X.A (f (.int i t) (.int j u)) Q E s) :
  OpR X f (rI0 fun i j=>.bl (g i j)):=by
 intro pins s σ H x y v u Q I rx ry h
 obtain ⟨i,j,rfl,rfl,q⟩:=h
 obtain ⟨t,rfl⟩:=rx
 obtain ⟨t',rfl⟩:=ry
 exact rule i j t t' s _ _ ⟨.bl (g i j),H,I,rfl,q⟩
def CMul (i j:Int):Prop:=(-(2 ^ 64)<i∧i<2 ^ 64)∨(-(2 ^ 64)<j∧j<2 ^ 64)
theorem CMul.ok {i j:Int} (h:CMul i j):IntMulOk i j:=by
 rcases h with ⟨h1,h2⟩ | ⟨h1,h2⟩
 ·exact .of_left (intBits_le_64 h1 h2)
 ·exact .of_right (intBits_le_64 h1 h2)
theorem two_pow_nn (k:Nat):(0:Int)≤2 ^ k:=by
 rw [two_pow_cast]
 exact Int.natCast_nonneg _
theorem op_add:OpR X (binaryOp .Add) (rI0 fun i j=>.int (i+j)):=opI0 fun _ _ _ _ _ _ _ q=>add_int q
theorem op_sub:OpR X (binaryOp .Sub) (rI0 fun i j=>.int (i - j)):=opI0 fun _ _ _ _ _ _ _ q=>sub_int q
theorem op_mul:OpR X (binaryOp .Mult) (rI CMul fun i j=>.int (i * j)):=opI fun _ _ _ _ _ _ _ hc q=>mul_int q hc.ok
theorem op_mod:OpR X (binaryOp .Mod) (rI (fun _ j=>0<j) fun i j=>.int (i % j)):=opI fun i j _ _ _ _ _ hc q=>by
 have h1:(0:Int)<j:=hc
 exact mod_int' (by omega) (by rw [Int.fmod_eq_emod_of_nonneg i (by omega)];exact q)
theorem op_shr:OpR X (binaryOp .RShift) (rI (fun _ j=>0≤j) fun i j=>.int (i / 2 ^ j.toNat)):=opI fun i j _ _ _ _ _ hc q =>
 rshift_int hc (by rw [Int.fdiv_eq_ediv_of_nonneg i (two_pow_nn _)];exact q)
theorem unI {f:Value→Sem Value}{g:Int→Int}
  (rule:∀ (i:Int) (t:Tok) (s:Shared) (Q:Value→Shared→Prop) (E:Value→Shared→Prop),Q (.int (g i) s.toks) { s with toks:=s.toks+1 }→wpAny (model X.prog X.w) X.A (f (.int i t)) Q E s) :
  UnR X f (rU fun i=>.int (g i)):=by
 intro pins s σ H x v Q I rx h
 obtain ⟨i,rfl,q⟩:=h
 obtain ⟨t,rfl⟩:=rx
 exact rule i t s _ _ ⟨.int (g i),H,I.tok _,⟨_,rfl⟩,q⟩
theorem un_neg:UnR X (unaryOp .USub) (rU fun i=>.int (-i)):=unI fun _ _ _ _ _ q=>neg_int q
end
def scal:V→V→Bool
 | .non,.non=>true | .non,.int _=>true | .int _,.non=>true | .non,.bl _=>true | .bl _,.non=>true | .non,.str _=>true | .str _,.non=>true
 | .int _,.int _=>true | .bl _,.bl _=>true | .str _,.str _=>true | .byt _,.byt _=>true
 | .int _,.str _=>true | .str _,.int _=>true | .bl _,.str _=>true | .str _,.bl _=>true
 | _,_=>false
def rEq:R2:=fun x y H Q=>scal x y=true∧Q (.bl (decide (x=y))) H
def rNe:R2:=fun x y H Q=>scal x y=true∧Q (.bl (!decide (x=y))) H
theorem dec_int {i j:Int}:decide (V.int i=V.int j)=(i == j):=by
 rw [Bool.eq_iff_iff]
 simp
theorem dec_bl {i j:Bool}:decide (V.bl i=V.bl j)=(i == j):=by
 rw [Bool.eq_iff_iff]
 simp
theorem dec_str {i j:Str}:decide (V.str i=V.str j)=(i == j):=by
 rw [Bool.eq_iff_iff]
 simp
theorem dec_byt {i j:Array UInt8}:decide (V.byt i=V.byt j)=(i.toList == j.toList):=by
 rw [Bool.eq_iff_iff]
 cases i
 cases j
 simp
section
variable {X:Cx}{a b c:Expr}{ta tb tc:TE}{pos:Pos}
theorem fin_bl {pins:List (Addr × Obj)}{σ:St}{H:Hp}{s:Shared}{Q:VK}{k k':Bool} (I:Inv X pins σ H s) (q:Q (.bl k) H) (e:k=k'):EP X pins σ Q (.bool k') s:=by
 subst e
 exact ⟨.bl k,H,I,rfl,q⟩
theorem op_eq:OpR X (compareOp .Eq) rEq:=by
 intro pins s σ H x y v u Q I rx ry h
 obtain ⟨hs,q⟩:=h
 cases x with
 | non =>
  cases rx
  cases y with
  | non=>cases ry;exact PySem.EqNone.eq_none_none (fin_bl I q (by simp))
  | bl j=>cases ry;exact PySem.EqNone.eq_none_bool (fin_bl I q (by simp))
  | int j=>obtain ⟨t',rfl⟩:=ry;exact PySem.EqNone.eq_none_int (fin_bl I q (by simp))
  | str j=>obtain ⟨t',rfl⟩:=ry;exact PySem.EqNone.eq_none_str (fin_bl I q (by simp))
  | _=>exact absurd (show false=true from hs) Bool.false_ne_true
 | bl i =>
  cases rx
  cases y with
  | non=>cases ry;exact PySem.EqNone.eq_bool_none (fin_bl I q (by simp))
  | bl j=>cases ry;exact eq_bool (fin_bl I q dec_bl)
  | str j=>obtain ⟨t',rfl⟩:=ry;exact PySem.EqMixed.eq_bool_str (fin_bl I q (by simp))
  | _=>exact absurd (show false=true from hs) Bool.false_ne_true
 | int i =>
  obtain ⟨t,rfl⟩:=rx
  cases y with
  | non=>cases ry;exact PySem.EqNone.eq_int_none (fin_bl I q (by simp))
  | int j=>obtain ⟨t',rfl⟩:=ry;exact eq_int (fin_bl I q dec_int)
  | str j=>obtain ⟨t',rfl⟩:=ry;exact PySem.EqMixed.eq_int_str (fin_bl I q (by simp))
  | _=>exact absurd (show false=true from hs) Bool.false_ne_true
 | str i =>
  obtain ⟨t,rfl⟩:=rx
  cases y with
  | non=>cases ry;exact PySem.EqNone.eq_str_none (fin_bl I q (by simp))
  | bl j=>cases ry;exact PySem.EqMixed.eq_str_bool (fin_bl I q (by simp))
  | int j=>obtain ⟨t',rfl⟩:=ry;exact PySem.EqMixed.eq_str_int (fin_bl I q (by simp))
  | str j=>obtain ⟨t',rfl⟩:=ry;exact eq_str (fin_bl I q dec_str)
  | _=>exact absurd (show false=true from hs) Bool.false_ne_true
 | byt i =>
  obtain ⟨t,rfl⟩:=rx
  cases y with
  | byt j=>obtain ⟨t',rfl⟩:=ry;exact PySem.W.eq_bytes (fin_bl I q dec_byt)
  | _=>exact absurd (show false=true from hs) Bool.false_ne_true
 | _=>cases y<;>exact absurd (show false=true from hs) Bool.false_ne_true
theorem op_ne:OpR X (compareOp .NotEq) rNe:=by
 intro pins s σ H x y v u Q I rx ry h
 obtain ⟨hs,q⟩:=h
 cases x with
 | non =>
  cases rx
  cases y with
  | non=>cases ry;exact PySem.EqNone.ne_none_none (fin_bl I q (by simp))
  | bl j=>cases ry;exact PySem.EqNone.ne_none_bool (fin_bl I q (by simp))
  | int j=>obtain ⟨t',rfl⟩:=ry;exact PySem.EqNone.ne_none_int (fin_bl I q (by simp))
  | str j=>obtain ⟨t',rfl⟩:=ry;exact PySem.EqNone.ne_none_str (fin_bl I q (by simp))
  | _=>exact absurd (show false=true from hs) Bool.false_ne_true
 | bl i =>
  cases rx
  cases y with
  | non=>cases ry;exact PySem.EqNone.ne_bool_none (fin_bl I q (by simp))
  | bl j=>cases ry;exact ne_bool (fin_bl I q (congrArg not dec_bl))
  | str j=>obtain ⟨t',rfl⟩:=ry;exact PySem.EqMixed.ne_bool_str (fin_bl I q (by simp))
  | _=>exact absurd (show false=true from hs) Bool.false_ne_true
 | int i =>
  obtain ⟨t,rfl⟩:=rx
  cases y with
  | non=>cases ry;exact PySem.EqNone.ne_int_none (fin_bl I q (by simp))
  | int j=>obtain ⟨t',rfl⟩:=ry;exact ne_int (fin_bl I q (congrArg not dec_int))
  | str j=>obtain ⟨t',rfl⟩:=ry;exact PySem.EqMixed.ne_int_str (fin_bl I q (by simp))
  | _=>exact absurd (show false=true from hs) Bool.false_ne_true
 | str i =>
  obtain ⟨t,rfl⟩:=rx
  cases y with
  | non=>cases ry;exact PySem.EqNone.ne_str_none (fin_bl I q (by simp))
  | bl j=>cases ry;exact PySem.EqMixed.ne_str_bool (fin_bl I q (by simp))
  | int j=>obtain ⟨t',rfl⟩:=ry;exact PySem.EqMixed.ne_str_int (fin_bl I q (by simp))
  | str j=>obtain ⟨t',rfl⟩:=ry;exact ne_str (fin_bl I q (congrArg not dec_str))
  | _=>exact absurd (show false=true from hs) Bool.false_ne_true
 | byt i =>
  obtain ⟨t,rfl⟩:=rx
  cases y with
  | byt j=>obtain ⟨t',rfl⟩:=ry;exact PySem.W.ne_bytes (fin_bl I q (congrArg not dec_byt))
  | _=>exact absurd (show false=true from hs) Bool.false_ne_true
 | _=>cases y<;>exact absurd (show false=true from hs) Bool.false_ne_true
theorem op_lt:OpR X (compareOp .Lt) (rI0 fun i j=>.bl (decide (i<j))):=opB0 fun _ _ _ _ _ _ _ q=>lt_int q
theorem op_le:OpR X (compareOp .LtE) (rI0 fun i j=>.bl (decide (i≤j))):=opB0 fun _ _ _ _ _ _ _ q=>le_int q
theorem op_gt:OpR X (compareOp .Gt) (rI0 fun i j=>.bl (decide (j<i))):=opB0 fun _ _ _ _ _ _ _ q=>gt_int q
theorem op_ge:OpR X (compareOp .GtE) (rI0 fun i j=>.bl (decide (j≤i))):=opB0 fun _ _ _ _ _ _ _ q=>ge_int q
theorem nomark (b:Expr) {op:CmpOp} (h:op≠.In:=by decide) (h2:op≠.NotIn:=by decide):behindInMarks op b=false:=by
 have e1:(op == CmpOp.In)=false:=by cases op<;>first | rfl | exact absurd rfl h
 have e2:(op == CmpOp.NotIn)=false:=by cases op<;>first | rfl | exact absurd rfl h2
 cases b<;>simp [behindInMarks,e1,e2]
theorem pe_cmpR {op:CmpOp}{r:R2} (ho:OpR X (compareOp op) r) (ha:PE X a ta) (hb:PE X b tb) (hm:behindInMarks op b=false):PE X (.Compare a [op] [b] pos) (tOp r ta tb):=by
 intro pins s σ H Q I h
 exact wpAny_Compare1 (binT ha hb I h fun v u s2 x y H2 I2 rx ry q=>ho pins s2 σ H2 x y v u Q I2 rx ry q) hm
def tTest (t:TE):TT:=fun σ H Q=>t σ H fun x H'=>∃ k,x=.bl k∧Q k H'
theorem pt_cmpR {op:CmpOp}{r:R2} (ho:OpR X (compareOp op) r) (ha:PE X a ta) (hb:PE X b tb) (hm:behindInMarks op b=false):PT X (.Compare a [op] [b] pos) (tTest (tOp r ta tb)):=by
 intro pins s σ H Q I h
 refine wpAny_isTrue_Compare1 (thn (ha pins s σ H _ I h) fun v s1 ⟨x,H1,I1,r1,q1⟩=>thn (hb pins s1 σ H1 _ I1 q1) fun u s2 ⟨y,H2,I2,r2,q2⟩ =>
  thn (ho pins s2 σ H2 x y v u _ I2 r1 r2 q2) fun c s3 ⟨z,H3,I3,r3,k,e,q3⟩=>?_) hm
 subst e
 cases r3
 exact wpAny_truthy_bool ⟨H3,I3,q3⟩
def tChain (r r':R2) (ta tb tc:TE):TE:=fun σ H Q=>ta σ H fun x H1=>tb σ H1 fun y H2=>r x y H2 fun z H3=>∃ k,z=.bl k ∧
 (if k=true then tc σ H3 fun w' H4=>r' y w' H4 Q else Q (.bl false) H3)
theorem pe_chain {op op':CmpOp}{r r':R2} (ho:OpR X (compareOp op) r) (ho':OpR X (compareOp op') r') (ha:PE X a ta) (hb:PE X b tb) (hc:PE X c tc)
  (hm:lastMarks [op,op'] [b,c]=false:=by with_unfolding_all rfl):PE X (.Compare a [op,op'] [b,c] pos) (tChain r r' ta tb tc):=by
 intro pins s σ H Q I h
 refine Compare_chain (thn (ha pins s σ H _ I h) fun v s1 ⟨x,H1,I1,r1,q1⟩=>chain_link (thn (hb pins s1 σ H1 _ I1 q1) fun u s2 ⟨y,H2,I2,r2,q2⟩ =>
  thn (ho pins s2 σ H2 x y v u _ I2 r1 r2 q2) fun d s3 ⟨z,H3,I3,r3,k,e,q3⟩=>?_)) hm
 subst e
 cases r3
 refine wpAny_truthy_bool ?_
 cases k with
 | false=>exact ite_ff ⟨.bl false,H3,I3,rfl,q3⟩
 | true=>exact ite_tt (chain_last (thn (hc pins s3 σ H3 _ I3 q3) fun w' s4 ⟨z',H4,I4,r4,q4⟩=>ho' pins s4 σ H4 y z' u w' Q I4 r2 r4 q4))
theorem pt_chain {op op':CmpOp}{r r':R2} (ho:OpR X (compareOp op) r) (ho':OpR X (compareOp op') r') (ha:PE X a ta) (hb:PE X b tb) (hc:PE X c tc)
  (hm:lastMarks [op,op'] [b,c]=false:=by with_unfolding_all rfl):PT X (.Compare a [op,op'] [b,c] pos) (tTest (tChain r r' ta tb tc)):=by
 intro pins s σ H Q I h
 refine isTrue_chain (thn (ha pins s σ H _ I h) fun v s1 ⟨x,H1,I1,r1,q1⟩=>test_link (thn (hb pins s1 σ H1 _ I1 q1) fun u s2 ⟨y,H2,I2,r2,q2⟩ =>
  thn (ho pins s2 σ H2 x y v u _ I2 r1 r2 q2) fun d s3 ⟨z,H3,I3,r3,k,e,q3⟩=>?_)) hm
 subst e
 cases r3
 refine wpAny_truthy_bool ?_
 cases k with
 | false =>
  obtain ⟨k',e',q'⟩:=q3
  cases e'
  exact ite_ff ⟨H3,I3,q'⟩
 | true =>
  refine ite_tt (test_last (thn (hc pins s3 σ H3 _ I3 q3) fun w' s4 ⟨z',H4,I4,r4,q4⟩=>thn (ho' pins s4 σ H4 y z' u w' _ I4 r2 r4 q4) fun d' s5 ⟨z2,H5,I5,r5,k2,e2,q5⟩=>?_))
  subst e2
  cases r5
  exact wpAny_truthy_bool ⟨H5,I5,q5⟩
theorem line63:(sizeLine:Nat)<2 ^ 63:=by rw [sizeLine_eq];decide
theorem vals1 {x:V}{us:List Value} (r:Vals [x] us):∃ u,us=[u]∧RelV x u:=by
 cases r with
 | cons r1 r2=>cases r2;exact ⟨_,rfl,r1⟩
theorem vals2 {x y:V}{us:List Value} (r:Vals [x,y] us):∃ u w',us=[u,w']∧RelV x u∧RelV y w':=by
 cases r with
 | cons r1 r2 =>
  cases r2 with
  | cons r3 r4=>cases r4;exact ⟨_,_,rfl,r1,r3⟩
theorem call_max2 (hc:X.calm=true):CallR X (.builtin "max") (fun xs H Q=>∃ i j,xs=[.int i,.int j]∧Q (.int (if j > i then j else i)) H):=by
 intro pins s σ H xs us Q I r h
 obtain ⟨i,j,rfl,q⟩:=h
 obtain ⟨u,w',rfl,⟨t,rfl⟩,⟨t',rfl⟩⟩:=vals2 r
 refine max_two_ints (I.ok.hd hc) fun h' tk k=>⟨_,H,I.kept k,?_,q⟩
 by_cases hj:j > i
 ·rw [if_pos hj,if_pos hj];exact ⟨_,rfl⟩
 ·rw [if_neg hj,if_neg hj];exact ⟨_,rfl⟩
theorem call_str_int:CallR X (.type "str") (fun xs H Q=>∃ i,xs=[.int i]∧i.natAbs.log2<1920∧Q (.str (toString i)) H):=by
 intro pins s σ H xs us Q I r h
 obtain ⟨i,rfl,hz,q⟩:=h
 obtain ⟨u,rfl,t,rfl⟩:=vals1 r
 exact PySem.P.str_of_int hz ⟨.str _,H,I.tok _,⟨_,rfl⟩,q⟩
theorem call_ord:CallR X (.builtin "ord") (fun xs H Q=>∃ x,xs=[.str x]∧x.length=1∧Q (.int (x.cps.getD 0 0:Nat)) H):=by
 intro pins s σ H xs us Q I r h
 obtain ⟨x,rfl,hz,q⟩:=h
 obtain ⟨u,rfl,t,rfl⟩:=vals1 r
 exact ord_of_one hz ⟨.int _,H,I.tok _,⟨_,rfl⟩,q⟩
end
end L2
namespace L2
open PySem PySem.Spec PyProof.Rows
structure ObjM (h:Heap) (x dx C:Addr) (mA:Str→Option Value):Prop where
 obj:h.get? x=some (PySem.W.instObj C dx)
 ns:h.Ns1 dx mA
 ne:dx≠x
theorem lookIn_ns {h:Heap}{dx:Addr}{mA:Str→Option Value} (n:h.Ns1 dx mA):∃ od,h.get? dx=some od∧∀ name,PySem.W.lookIn name od=some (mA name):=by
 obtain ⟨o,es,ep,ho,hd,hk,_,hm⟩:=n
 refine ⟨o,ho,fun name=>?_⟩
 have e:=hm name
 unfold nsFind findBy at e
 rw [← Array.find?_toList] at e
 unfold PySem.W.lookIn
 rw [hd]
 dsimp only
 split
 ·rename_i y q
  rw [q] at e
  exact congrArg some e
 ·rename_i q
  rw [q] at e
  have a:es.toList.any (·.refKey)=false:=by
   rw [List.any_eq_false]
   intro y hy
   obtain ⟨z,t,hkey⟩:=hk y (Array.mem_toList_iff.mp hy)
   simp [DictEntry.refKey,hkey]
  have a':¬ es.toList.any (·.refKey)=true:=by rw [a];exact Bool.false_ne_true
  rw [if_neg a']
  exact congrArg some e
theorem ObjM.look {h:Heap}{x dx C:Addr}{mA:Str→Option Value} (I:ObjM h x dx C mA):∃ od,PySem.W.InstAt h x (PySem.W.instObj C dx) C (some od)∧∀ name,PySem.W.lookIn name od=some (mA name) :=
 let ⟨od,ho,hl⟩:=lookIn_ns I.ns
 ⟨od,⟨I.obj,rfl,rfl,ho⟩,hl⟩
section
variable {prog:Program}{w:World}{A:Around}{E:Value→Shared→Prop}{s:Shared}{K:PySem.W.Frag}{x dx C f:Addr}{mA:Str→Option Value}{name:Str}{v:Value}
theorem get_map {expr:Bool}{Q:Value→Shared→Prop} (X:K.In s.heap) (I:ObjM s.heap x dx C mA) (hg:PySem.W.plainGet K C name=true) (hh:PySem.W.hasDictIn K C=true)
  (ha:PySem.W.findIn K (.ref C) name=some none) (hv:mA name=some v) (hv':PySem.W.handedIn v=true) (h:Q v { s with toks:=s.toks+1 }) :
  wpAny (model prog w) A (getAttr (.ref x) name expr) Q E s:=by
 obtain ⟨od,J,hl⟩:=I.look
 exact PySem.W.get_value X J (PySem.W.plainGet_of hg).1 (PySem.W.findObj_own hh ha rfl (by rw [hl,hv])) hv' h
theorem get_meth {pl:Sem Bool}{Q:Value × List Value→Shared→Prop} (X:K.In s.heap) (I:ObjM s.heap x dx C mA) (hg:PySem.W.plainGet K C name=true)
  (hf:PySem.W.findIn K (.ref C) name=some (some (.ref f))) (ht:PySem.W.isFn K (.ref f)=true) (hv:mA name=none) (h:Q (.ref f,[.ref x]) s) :
  wpAny (model prog w) A (getMethod (.ref x) name pl) Q E s:=by
 obtain ⟨od,J,hl⟩:=I.look
 exact PySem.W.method_fn X J (PySem.W.plainGet_of hg).1 (PySem.W.plainGet_of hg).2 hf (beq_iff_eq.mp ht) (by show (PySem.W.lookIn name od).map (·.isSome)=some false;rw [hl,hv];rfl) h
theorem set_map {ns:List Str}{Q:Unit→Shared→Prop} (X:K.In s.heap) (I:ObjM s.heap x dx C mA)
  (hs:PySem.W.findIn K (.ref C) "__setattr__"=some (some (.builtin "object.__setattr__"))) (hp:PySem.W.plainOver K C=true) (ht:PySem.W.takerIn K C name=some none) (hh:PySem.W.hasDictIn K C=true)
  (hw:PySem.Within mA ns) (hsz:ns.length≤sizeLine)
  (h:∀ h',ObjM h' x dx C (fun y=>if y=name then some v else mA y)→Heap.SameBut dx s.heap h'→Q () { s with heap:=h',toks:=s.toks+2 }) :
  wpAny (model prog w) A (setAttr (.ref x) name v) Q E s:=by
 obtain ⟨od,J,hl⟩:=I.look
 refine PySem.W.set_plain X J hs (PySem.W.osa_open (s:={ s with toks:=s.toks+1 }) (r:=none) X J hp ht fun b=>?_)
 obtain ⟨cd,hc,hd'⟩:=PySem.W.any_some hh
 have hx:s.heap.get? x=some ⟨.ref C,some dx,.plain,#[]⟩:=I.obj
 refine wpAny_bind (wpAny_pure (wpAny_bind (wpAny_bind (wpAny_loadPart hx (wpAny_bind (PySem.W.Looks.here (s:={ s with toks:=s.toks+1 }) (PySem.W.looks_clsIn X hc) ?_))))))
 rw [hd']
 refine wpAny_pure (a:=some dx) (wpAny_bind (wpAny_pure (wpAny_bind ?_)))
 refine wpAny_nsSet1 (s:={ s with toks:=s.toks+1 }) I.ns fun h' hn2 hs2=>?_
 obtain ⟨oD,esD,epD,hoD,hdD,hcD⟩:=hn2.count (PySem.Within.cons name v hw)
 refine wpAny_bind (wpAny_lookBehind hoD (by rw [hdD];exact pastItsLine_dict (Nat.le_trans hcD (by rw [List.length_cons];omega))) ?_)
 exact wpAny_pure (h _ ⟨(hs2.2 _ (Ne.symm I.ne)).trans I.obj,hn2,I.ne⟩ hs2)
theorem make_map {R:Result→Shared→Prop}{vs:List Value}{kw:List (Str × Value)} (X:K.In s.heap) (hm:PySem.W.makesIn K C=true)
  (hi:PySem.W.findIn K (.ref C) "__init__"=some (some (.ref f))) (hf:PySem.W.typeIn K (.ref f)=some (.type "function"))
  (h:codeAny (model prog w) (A.under (.builtin "type.__call__" ⟨.ref C::vs,kw⟩)) (.call (.ref f) ⟨.ref (s.heap.objs.size+1)::vs,kw⟩) (PySem.W.InitBack (s.heap.objs.size+1) R)
   { s with heap:=(s.heap.push PySem.W.emptyDict).push (PySem.W.instObj C s.heap.objs.size) }) :
  codeAny (model prog w) A (.call (.ref C) ⟨vs,kw⟩) R s:=by
 obtain ⟨hh,g,d,t,os⟩:=s
 exact PySem.W.make_core (PySem.W.makes_of X hm) (PySem.W.looks_findIn X hi) (fun self=>PySem.W.bind_fn X self hf) (.inl rfl) h
end
def putF (f:Str) (v:V):List (Str × V)→List (Str × V)
 | []=>[(f,v)]
 | (g,x)::r=>if g=f then (g,v)::r else (g,x)::putF f v r
theorem lookup_putF (f g:Str) (v:V):∀ fs:List (Str × V),(putF f v fs).lookup g=if g=f then some v else fs.lookup g
 | []=>by
  show List.lookup g [(f,v)]=_
  by_cases h:g=f
  ·have hb:(g == f)=true:=beq_iff_eq.mpr h
   simp only [List.lookup,hb,if_pos h]
  ·have hb:(g == f)=false:=beq_eq_false_iff_ne.mpr h
   simp only [List.lookup,hb,if_neg h]
 | (k,x)::r=>by
  have ih:=lookup_putF f g v r
  rw [show putF f v ((k,x)::r)=(if k=f then (k,v)::r else (k,x)::putF f v r) from rfl]
  by_cases hk:k=f
  ·rw [if_pos hk]
   by_cases h:g=k
   ·have hb:(g == k)=true:=beq_iff_eq.mpr h
    simp only [List.lookup,hb,if_pos (h.trans hk)]
   ·have hb:(g == k)=false:=beq_eq_false_iff_ne.mpr h
    simp only [List.lookup,hb,if_neg (fun e:g=f=>h (e.trans hk.symm))]
  ·rw [if_neg hk]
   by_cases h:g=k
   ·have hb:(g == k)=true:=beq_iff_eq.mpr h
    simp only [List.lookup,hb,if_neg (fun e:g=f=>hk (h.symm.trans e))]
   ·have hb:(g == k)=false:=beq_eq_false_iff_ne.mpr h
    simp only [List.lookup,hb]
    exact ih
theorem keys_putF (f:Str) (v:V):∀ fs:List (Str × V),f∈(putF f v fs).map (·.1)∧∀ g,g∈fs.map (·.1)→g∈(putF f v fs).map (·.1)
 | []=>⟨by simp [putF],fun g h=>by simp at h⟩
 | (k,x)::r=>by
  obtain ⟨i1,i2⟩:=keys_putF f v r
  rw [show putF f v ((k,x)::r)=(if k=f then (k,v)::r else (k,x)::putF f v r) from rfl]
  by_cases hk:k=f
  ·rw [if_pos hk]
   subst hk
   exact ⟨by simp,fun g h=>by simpa using h⟩
  ·rw [if_neg hk]
   refine ⟨?_,fun g h=>?_⟩
   ·rw [List.map_cons]
    exact List.mem_cons_of_mem _ i1
   ·rw [List.map_cons] at h ⊢
    rcases List.mem_cons.mp h with e | e
    ·exact List.mem_cons.mpr (.inl e)
    ·exact List.mem_cons_of_mem _ (i2 g e)
theorem length_putF (f:Str) (v:V):∀ fs:List (Str × V),(putF f v fs).length≤fs.length+1
 | []=>by simp [putF]
 | (k,x)::r=>by
  have ih:=length_putF f v r
  rw [show putF f v ((k,x)::r)=(if k=f then (k,v)::r else (k,x)::putF f v r) from rfl]
  by_cases hk:k=f
  ·rw [if_pos hk,List.length_cons,List.length_cons];omega
  ·rw [if_neg hk,List.length_cons,List.length_cons];omega
theorem RelO.some_of {v:V}{o:Option Value} (r:RelO (some v) o):∃ u,o=some u∧RelV v u:=by
 cases o with
 | none=>exact (show False from r).elim
 | some u=>exact ⟨u,rfl,r⟩
theorem RelO.none_of {o:Option Value} (r:RelO none o):o=none:=by
 cases o with
 | none=>rfl
 | some u=>exact (show False from r).elim
theorem handed_of {v:V}{u:Value} (r:RelV v u):PySem.W.handedIn u=true:=by
 cases v with
 | non=>cases (show u=Value.none from r);rfl
 | bl b=>cases (show u=Value.bool b from r);rfl
 | int i=>obtain ⟨t,e⟩:=(show ∃ t,u=Value.int i t from r);cases e;rfl
 | str x=>obtain ⟨t,e⟩:=(show ∃ t,u=Value.str x t from r);cases e;rfl
 | byt b=>obtain ⟨t,e⟩:=(show ∃ t,u=Value.bytes b t from r);cases e;rfl
 | flt b=>obtain ⟨t,e⟩:=(show ∃ t,u=Value.float b t from r);cases e;rfl
 | ref a=>cases (show u=Value.ref a from r);rfl
 | ty n=>cases (show u=Value.type n from r);rfl
section
variable {P:Program}{w:World}{H H':Hp}{h h':Heap}{a C dx:Addr}{fs fs':List (Str × V)}
theorem ins_get (hok:HOk P w H h) (e:H a=some (.ins C dx fs)):∃ mA,ObjM h a dx C mA∧(∀ f,RelO (fs.lookup f) (mA f))∧PySem.Within mA (fs.map (·.1))∧fs.length≤1000∧H dx=some (.own a):=by
 obtain ⟨d,z,ne,ob,mA,n,r,q⟩:=(show ObjOk P w H h a (.ins C dx fs) from hok a _ e)
 exact ⟨mA,⟨ob,n,ne⟩,r,q,z,d⟩
end
structure Cls (K:PySem.W.Frag) (C:Addr):Prop where
 pg:PySem.W.plainGet K C Str.empty=true
 hd:PySem.W.hasDictIn K C=true
 po:PySem.W.plainOver K C=true
 sa:PySem.W.findIn K (.ref C) "__setattr__"=some (some (.builtin "object.__setattr__"))
theorem Cls.get {K:PySem.W.Frag}{C:Addr} (c:Cls K C) (f:Str):PySem.W.plainGet K C f=true:=c.pg
def NoAttr (K:PySem.W.Frag) (C:Addr) (f:Str):Prop:=PySem.W.findIn K (.ref C) f=some none
theorem NoAttr.taker {K:PySem.W.Frag}{C:Addr}{f:Str} (n:NoAttr K C f):PySem.W.takerIn K C f=some none:=by
 unfold PySem.W.takerIn
 rw [show PySem.W.findIn K (.ref C) f=some none from n]
 rfl
structure Meth (K:PySem.W.Frag) (C:Addr) (m:Str) (f:Addr):Prop where
 at_:PySem.W.findIn K (.ref C) m=some (some (.ref f))
 fn:PySem.W.isFn K (.ref f)=true
 kp:PySem.W.keepIn K (.ref f)=true
section
variable {X:Cx}{pins:List (Addr × Obj)}{σ:St}{H:Hp}{s:Shared}{a C dx:Addr}{fs:List (Str × V)}{f:Str}{v:V}{A:Around}{E:Value→Shared→Prop}
theorem getattr_ok {b:Bool}{Q:Value→Shared→Prop} (I:Inv X pins σ H s) (e:H a=some (.ins C dx fs)) (c:Cls X.K C) (n:NoAttr X.K C f) (l:fs.lookup f=some v)
  (h:∀ u s',Inv X pins σ H s'→RelV v u→Q u s'):wpAny (model X.prog X.w) A (getAttr (.ref a) f b) Q E s:=by
 obtain ⟨mA,O,r,_,_,_⟩:=ins_get I.hok e
 obtain ⟨u,hu,ru⟩:=RelO.some_of (v:=v) (o:=mA f) (by rw [← l];exact r f)
 exact get_map I.kIn O (c.get f) c.hd n hu (handed_of ru) (h u _ (I.tok _) ru)
theorem getmeth_ok {m:Str}{g:Addr}{pl:Sem Bool}{Q:Value × List Value→Shared→Prop} (I:Inv X pins σ H s) (e:H a=some (.ins C dx fs)) (c:Cls X.K C) (k:Meth X.K C m g) (l:fs.lookup m=none)
  (h:Q (.ref g,[.ref a]) s):wpAny (model X.prog X.w) A (getMethod (.ref a) m pl) Q E s:=by
 obtain ⟨mA,O,r,_,_,_⟩:=ins_get I.hok e
 have hn:mA m=none:=RelO.none_of (by rw [← l];exact r m)
 exact get_meth I.kIn O (c.get m) k.at_ k.fn hn h
theorem setattr_ok {y:V}{u:Value}{Q:Unit→Shared→Prop} (I:Inv X pins σ H s) (e:H a=some (.ins C dx fs)) (c:Cls X.K C) (n:NoAttr X.K C f) (hl:fs.length<1000) (ry:RelV y u)
  (h:∀ s',Inv X pins σ (upd H a (.ins C dx (putF f y fs))) s'→Q () s'):wpAny (model X.prog X.w) A (setAttr (.ref a) f u) Q E s:=by
 obtain ⟨mA,O,r,wi,_,ho⟩:=ins_get I.hok e
 have hz:(fs.map (·.1)).length≤sizeLine:=by rw [List.length_map,sizeLine_eq];omega
 refine set_map I.kIn O c.sa c.po n.taker c.hd wi hz fun h' O' sb=>h _ ?_
 have hd:∃ o,h'.get? dx=some o:=let ⟨o,_,_,e',_⟩:=O'.ns;⟨o,e'⟩
 refine I.write (x:=a) (e:=dx) (by rw [e];exact True.intro) (.inr ho) (fun b q hb z=>(sb.2 b hb).trans z) hd ?_
 refine ⟨by rw [upd_ne O.ne];exact ho,?_,O.ne,O'.obj,_,O'.ns,fun g=>?_,fun g hg=>?_⟩
 ·have:=length_putF f y fs;omega
 ·show RelO ((putF f y fs).lookup g) (if g=f then some u else mA g)
  rw [lookup_putF]
  by_cases q:g=f
  ·rw [if_pos q,if_pos q];exact ry
  ·rw [if_neg q,if_neg q];exact r g
 ·by_cases q:g=f
  ·rw [q];exact (keys_putF f y fs).1
  ·refine (keys_putF f y fs).2 g (wi g fun z=>hg ?_)
   show (if g=f then some u else mA g)=none
   rw [if_neg q];exact z
theorem Inv.made (I:Inv X pins σ H s):Inv X pins σ (upd (upd H s.heap.objs.size (.own (s.heap.objs.size+1))) (s.heap.objs.size+1) (.ins C s.heap.objs.size []))
  { s with heap:=(s.heap.push PySem.W.emptyDict).push (PySem.W.instObj C s.heap.objs.size) }:=by
 have e1:(s.heap.push PySem.W.emptyDict).get? s.heap.objs.size=some PySem.W.emptyDict:=Heap.get?_push_size s.heap rfl
 have e2:((s.heap.push PySem.W.emptyDict).push (PySem.W.instObj C s.heap.objs.size)).get? (s.heap.objs.size+1)=some (PySem.W.instObj C s.heap.objs.size):=by
  have:=Heap.get?_push_size (s.heap.push PySem.W.emptyDict) (o:=PySem.W.instObj C s.heap.objs.size) rfl
  rwa [Heap.size_push] at this
 have e3:(s.heap.push PySem.W.emptyDict).Ns s.heap.objs.size (fun _=>none):=⟨PySem.W.emptyDict,#[],_,e1,rfl,(fun e he=>absurd he (by simp)),fun _=>rfl⟩
 have I1:=I.laid (a:=s.heap.objs.size) (o:=.own (s.heap.objs.size+1)) (h':=s.heap.push PySem.W.emptyDict) (t':=s.toks) (fun b u q=>Heap.get?_push_of_some _ q) (Nat.le_refl _) ⟨_,e1⟩
 refine I1.laid (a:=s.heap.objs.size+1) (o:=.ins C s.heap.objs.size []) (t':=s.toks) (fun b u q=>Heap.get?_push_of_some _ q) (Nat.le_of_eq (Heap.size_push _ _)) ?_
 have ne:s.heap.objs.size≠s.heap.objs.size+1:=Nat.ne_of_lt (Nat.lt_succ_self _)
 refine ⟨by rw [upd_ne ne,upd_same],Nat.zero_le _,ne,e2,fun _=>none,(Heap.Ns1.of_empty e3).at fun o q=>Heap.get?_push_of_some _ q,fun _=>True.intro,fun y hy=>absurd rfl hy⟩
theorem attr_of {prog:Program}{w:World}{env:Env}{e:Expr}{f:Str}{pos:Pos}{s:Shared}{Q:Value→Shared→Prop} (hb:attributeBase e f env (eval e env)=eval e env)
  (h:wpAny (model prog w) A (eval e env) (fun o s₁=>wpAny (model prog w) A (getAttr o f true) Q E s₁) E s):wpAny (model prog w) A (eval (.Attribute e f pos) env) Q E s :=
 Attribute_any_ h (by rw [arm_eval_Attribute,hb])
end
def tFld (K:PySem.W.Frag) (ta:TE) (f:Str):TE:=fun σ H Q=>ta σ H fun x H1=>∃ a C dx fs v,x=.ref a∧H1 a=some (.ins C dx fs)∧Cls K C∧NoAttr K C f∧fs.lookup f=some v∧Q v H1
def sFld (K:PySem.W.Frag) (ta tv:TE) (f:Str):TS:=fun D σ H=>tv σ H fun y H1=>ta σ H1 fun x H2=>∃ a C dx fs,x=.ref a∧H2 a=some (.ins C dx fs)∧Cls K C∧NoAttr K C f∧fs.length<1000 ∧
 D.nx σ (upd H2 a (.ins C dx (putF f y fs)))
def InOp (X:Cx) (op:Operator) (rd:V→V→Hp→VK→Prop):Prop :=
 ∀ (pins:List (Addr × Obj)) (s:Shared) (σ:St) (H:Hp) (x y:V) (u v:Value) (Q:VK),Inv X pins σ H s→RelV x u→RelV y v→rd x y H Q→wpAny (model X.prog X.w) X.A (inplaceOp op u v) (EP X pins σ Q) X.xe s
def sFldAug (K:PySem.W.Frag) (ta tv:TE) (rd:V→V→Hp→VK→Prop) (f:Str):TS:=fun D σ H=>ta σ H fun x H1=>∃ a C dx fs v,x=.ref a∧H1 a=some (.ins C dx fs)∧Cls K C∧NoAttr K C f∧fs.lookup f=some v ∧
 tv σ H1 fun y H2=>rd v y H2 fun z H3=>∃ dx' fs',H3 a=some (.ins C dx' fs')∧fs'.length<1000∧D.nx σ (upd H3 a (.ins C dx' (putF f z fs')))
section
variable {X:Cx}{o e value:Expr}{f:Str}{pos pos' tpos:Pos}{ta tv:TE}
theorem pe_fld (he:PE X e ta) (hb:attributeBase e f X.env (eval e X.env)=eval e X.env):PE X (.Attribute e f pos) (tFld X.K ta f):=by
 intro pins s σ H Q I h
 refine attr_of hb (thn (he pins s σ H _ I h) fun u s1 ⟨x,H1,I1,rx,a,C,dx,fs,v,ex,ea,c,n,l,q⟩=>?_)
 subst ex
 obtain rfl:u=Value.ref a:=rx
 exact getattr_ok I1 ea c n l fun u' s2 I2 ru=>⟨v,H1,I2,ru,q⟩
theorem ps_fld (ha:PE X o ta) (hv:PE X value tv) (hs:swapsWith value (some (.Attribute o f pos')) pos.line X.env=pure false):PS X (.Assign [.Attribute o f pos'] value pos) (sFld X.K ta tv f):=by
 intro pins s σ H D I h
 refine plainObj_wpAny_Assign_Attribute (thn (hv pins s σ H _ I h) fun u s1 ⟨y,H1,I1,ry,q⟩=>thn (ha pins s1 σ H1 _ I1 q) fun ov s2 ⟨x,H2,I2,rx,a,C,dx,fs,ex,ea,c,n,l,q2⟩=>?_) hs
 subst ex
 obtain rfl:ov=Value.ref a:=rx
 exact setattr_ok I2 ea c n l ry fun s3 I3=>⟨σ,_,I3,q2⟩
theorem ps_fldaug {op:Operator}{rd:V→V→Hp→VK→Prop} (ha:PE X o ta) (hv:PE X value tv) (hop:InOp X op rd):PS X (.AugAssign (.Attribute o f tpos) op value pos) (sFldAug X.K ta tv rd f):=by
 intro pins s σ H D I h
 refine wpAny_AugAssign_AttributeAny (thn (ha pins s σ H _ I h) fun ov s1 ⟨x,H1,I1,rx,a,C,dx,fs,v,ex,ea,c,n,l,q⟩=>?_)
 subst ex
 obtain rfl:ov=Value.ref a:=rx
 refine getattr_ok I1 ea c n l fun u s2 I2 ru=>thn (hv pins s2 σ H1 _ I2 q) fun w3 s3 ⟨y,H2,I3,ry,q3⟩=>thn (hop pins s3 σ H2 v y u w3 _ I3 ru ry q3) fun w4 s4 ⟨z,H3,I4,rz,dx',fs',ea',l',q4⟩=>?_
 exact setattr_ok I4 ea' c n l' rz fun s5 I5=>⟨σ,_,I5,q4⟩
def rAdd:V→V→Hp→VK→Prop:=fun x y H Q=>∃ i j,x=.int i∧y=.int j∧Q (.int (i+j)) H
theorem in_add:InOp X .Add rAdd:=by
 rintro pins s σ H x y u v Q I rx ry ⟨i,j,rfl,rfl,q⟩
 obtain ⟨t,rfl⟩:=(show ∃ t,u=Value.int i t from rx)
 obtain ⟨t',rfl⟩:=(show ∃ t',v=Value.int j t' from ry)
 exact PyProof.Rows.iadd_int ⟨.int (i+j),H,I.tok _,⟨_,rfl⟩,q⟩
end
end L2
namespace L2
open PySem PySem.Spec PyProof.Rows
structure Room (k:Nat) (A:Around):Prop where
 hd:A.handled=none
 dp:A.depth+3 * k+5<recursionLimit
 un:A.units+16 * k+200<cLine
theorem Room.mono {j k:Nat}{A:Around} (r:Room k A) (h:j≤k):Room j A:=⟨r.hd,by have:=r.dp;omega,by have:=r.un;omega⟩
theorem Room.deeper {k:Nat}{A:Around} (r:Room (k+1) A) (env:Env):Room k (A.deeper env) :=
 ⟨r.hd,by have:=r.dp;show A.depth+1+3 * k+5<_;omega,by have:=r.un;show A.units+3+16 * k+200<_;omega⟩
theorem make_depth {A:Around}{C:Addr}{us:List Value}{kw:List (Str × Value)}:(A.under (.builtin "type.__call__" ⟨.ref C::us,kw⟩)).depth=A.depth+1:=by
 first | rfl | simp [Around.under,Code.weight,Code.isCreation,Code.isGuard,Code.isCaller,Code.frames,Code.isFrame,guardIds]
theorem make_units {A:Around}{C:Addr}{us:List Value}{kw:List (Str × Value)}:(A.under (.builtin "type.__call__" ⟨.ref C::us,kw⟩)).units=A.units+1:=by
 first | rfl | simp [Around.under,Code.cUnits,Code.frames,Code.isFrame]
theorem Room.make {k:Nat}{A:Around} (r:Room (k+1) A) (C:Addr) (us:List Value) (kw:List (Str × Value)):Room k (A.under (.builtin "type.__call__" ⟨.ref C::us,kw⟩)) :=
 ⟨r.hd,by have:=r.dp;rw [make_depth];omega,by have:=r.un;rw [make_units];omega⟩
theorem Room.depth {k:Nat}{A:Around} (r:Room k A):A.depth<recursionLimit:=by have:=r.dp;omega
theorem Room.units {k:Nat}{A:Around} (r:Room k A):A.units+64<cLine:=by have:=r.un;omega
def tNil:TA:=fun _ H Q=>Q [] H
def tCons (ta:TE) (tr:TA):TA:=fun σ H Q=>ta σ H fun x H1=>tr σ H1 fun xs H2=>Q (x::xs) H2
section
variable {X:Cx}{e:Expr}{es:List Expr}{te:TE}{t:TA}{pos:Pos}
theorem pa_nil:PA X [] tNil:=fun _ _ _ _ H Q I h=>Calls.spliced_nil ⟨[],H,I,.nil,h⟩
theorem pa_cons (ha:PE X e te) (hr:PA X es t) (hs:starEach (e::es) X.env=(false,eval e X.env)::starEach es X.env:=by rfl):PA X (e::es) (tCons te t):=by
 intro pos pins s σ H Q I h
 rw [hs]
 show wpAny _ _ (spliced ((false,eval e X.env)::backTo pos (starEach es X.env))) _ _ s
 refine Calls.spliced_cons (thn (ha pins s σ H _ I h) fun u s1 ⟨x,H1,I1,r1,q1⟩=>?_)
 exact thn (hr pos pins s1 σ H1 _ I1 q1) fun us s2 ⟨xs,H2,I2,r2,q2⟩=>⟨x::xs,H2,I2,.cons r1 r2,q2⟩
def tTup (t:TA):TE:=fun σ H Q=>t σ H fun xs H1=>xs.length≤sizeLine∧∀ p,H1 p=none→Q (.ref p) (upd H1 p (.tup xs))
def tLst (t:TA):TE:=fun σ H Q=>t σ H fun xs H1=>xs.length≤sizeLine∧∀ p,H1 p=none→Q (.ref p) (upd H1 p (.lst xs))
theorem pe_tup {x1} (h:PA X es t):PE X (.Tuple es x1 pos) (tTup t):=by
 intro pins s σ H Q I hq
 refine wpAny_Tuple_spliced (thn (h pos pins s σ H _ I hq) fun us s1 ⟨xs,H1,I1,r,z,q⟩=>⟨by rw [← r.length];exact z,?_⟩)
 have hf:H1 s1.heap.objs.size=none:=I1.hok.fresh (Nat.le_refl _)
 refine ⟨.ref s1.heap.objs.size,upd H1 s1.heap.objs.size (.tup xs),I1.laid (t':=s1.toks) (fun b u e=>Heap.get?_push_of_some _ e) (Nat.le_refl _) ?_,rfl,q _ hf⟩
 exact ⟨z,us,r,⟨_,Heap.get?_push_size _ rfl,rfl,_,rfl⟩⟩
theorem pe_lst (h:PA X es t):PE X (.List es pos) (tLst t):=by
 intro pins s σ H Q I hq
 refine wpAny_List_spliced (thn (h pos pins s σ H _ I hq) fun us s1 ⟨xs,H1,I1,r,z,q⟩=>⟨by rw [← r.length];exact z,?_⟩)
 have hf:H1 s1.heap.objs.size=none:=I1.hok.fresh (Nat.le_refl _)
 refine ⟨.ref s1.heap.objs.size,upd H1 s1.heap.objs.size (.lst xs),I1.laid (t':=s1.toks) (fun b u e=>Heap.get?_push_of_some _ e) (Nat.le_refl _) ?_,rfl,q _ hf⟩
 exact ⟨z,us,0,r,Heap.get?_push_size _ rfl⟩
end
abbrev Sp:=List V→Hp→VK→XK→Prop
abbrev CXT:=List Env→Hp→Shared→XK→Value→Shared→Prop
structure Env0 (P:Program) (w:World) (K:PySem.W.Frag) (mg:Str→Option Value) (base:Heap) (A:Around) (outer:List Env) (s:Shared) (H:Hp):Prop where
 frames:A.frames=some outer
 mod:Mod K mg base
 bs:∀ b o,base.get? b=some o→s.heap.get? b=some o∧H b=none
 bsz:base.objs.size≤s.heap.objs.size
 funs:s.heap.FunFrames base outer
 frf:∀ b∈frs outer,H b=none
 hok:HOk P w H s.heap
 bare:AllBare s.gens
def CE (outer:List Env) (P:Program) (w:World) (H:Hp) (s:Shared) (Q:VK) (u:Value) (s':Shared):Prop :=
 ∃ v H',s'.os=s.os∧AllBare s'.gens∧Un (frs outer) [] H H' s.heap s'.heap∧HOk P w H' s'.heap∧RelV v u∧Q v H'
def CR (CX:CXT) (outer:List Env) (P:Program) (w:World) (H:Hp) (s:Shared) (Q:VK) (E:XK) (r:Result) (s':Shared):Prop :=
 match r with
 | .ok (.ret u)=>CE outer P w H s Q u s'
 | .ok _=>False
 | .error e=>CX outer H s E e s'
structure FnOk (P:Program) (w:World) (K:PySem.W.Frag) (mg:Str→Option Value) (base:Heap) (CX:CXT) (k:Nat) (f:Addr) (fd:FuncData) (ps:List Str) (sp:Sp):Prop where
 len:∀ vs H Q E,sp vs H Q E→vs.length=ps.length
 run:∀ (A:Around) (outer:List Env) (s:Shared) (H:Hp) (args:Args) (us:List Value) (vs:List V) (Q:VK) (E:XK),Room k A→Env0 P w K mg base A outer s H→BindsTo s fd args (ps.zip us)→Vals vs us→sp vs H Q E →
  codeAny (model P w) A (.call (.ref f) args) (CR CX outer P w H s Q E) s
theorem Env0.make {P:Program}{w:World}{K:PySem.W.Frag}{mg:Str→Option Value}{base:Heap}{A:Around}{outer:List Env}{s:Shared}{H:Hp} (e:Env0 P w K mg base A outer s H) (C:Addr) (us:List Value) (kw:List (Str × Value)) :
  Env0 P w K mg base (A.under (.builtin "type.__call__" ⟨.ref C::us,kw⟩)) outer s H:=⟨by first | exact e.frames | (simpa [Around.under,Code.envs,Code.isFrame,pushEnvs] using e.frames),e.mod,e.bs,e.bsz,e.funs,e.frf,e.hok,e.bare⟩
section
variable {X:Cx}{pins:List (Addr × Obj)}{σ:St}{H:Hp}{s s':Shared}
theorem Inv.env0 (I:Inv X pins σ H s):Env0 X.prog X.w X.K X.mg X.base X.A X.stack s H :=
 ⟨I.ok.frames,I.ok.mod,I.bs,Nat.le_trans I.ok.bsz I.sz,I.stack,I.stkFree,I.hok,I.bare⟩
theorem Inv.after {Q:VK}{u:Value} (I:Inv X pins σ H s) (h:CE X.stack X.prog X.w H s Q u s'):EP X pins σ Q u s':=by
 obtain ⟨v,H',os,bare,un,hok,r,q⟩:=h
 obtain ⟨hh,g,d,t,os'⟩:=s'
 obtain rfl:os'=s.os:=os
 exact ⟨v,H',I.call (h':=hh) (g':=g) (d':=d) (t':=t) (ch:=[]) un hok bare (fun b z=>absurd z (by simp)),r,q⟩
end
def tCall (sp:Sp) (dvs:List V) (E:XK) (t:TA):TE:=fun σ H Q=>t σ H fun vs H1=>sp (vs++dvs) H1 Q E
def tMeth (C:Addr) (m:Str) (sp:Sp) (dvs:List V) (E:XK) (ta:TE) (t:TA):TE:=fun σ H Q=>ta σ H fun x H1=>∃ a dx fs,x=.ref a∧H1 a=some (.ins C dx fs)∧fs.lookup m=none ∧
 t σ H1 fun vs H2=>sp (x::(vs++dvs)) H2 Q E
def tMake (C:Addr) (sp:Sp) (dvs:List V) (E:XK) (t:TA):TE:=fun σ H Q=>t σ H fun vs H1=>∀ x dx,H1 x=none→H1 dx=none→dx≠x →
 sp (.ref x::(vs++dvs)) (upd (upd H1 dx (.own x)) x (.ins C dx [])) (fun v H2=>v=.non∧Q (.ref x) H2) E
def Binds (K:PySem.W.Frag) (fd:FuncData) (ps:List Str) (ds:List Value):Prop :=
 ∀ (s:Shared) (us:List Value),K.In s.heap→(us++ds).length=ps.length→BindsTo s fd ⟨us,[]⟩ (ps.zip (us++ds))
theorem Binds.all {K:PySem.W.Frag}{fd:FuncData}{ps:List Str} (h:∀ us:List Value,us.length=ps.length→bindArgs fd ⟨us,[]⟩=pure (ps.zip us)):Binds K fd ps []:=fun s us _ hl=>by
 rw [List.append_nil] at hl ⊢
 exact .of_eq (h us hl)
def Passes (CX:CXT) (X:Cx) (E:XK):Prop:=∀ (pins:List (Addr × Obj)) (σ:St) (H:Hp) (s:Shared) (e:Value) (s':Shared),Inv X pins σ H s→CX X.stack H s E e s'→X.xe e s'
section
variable {X:Cx}{CX:CXT}{k:Nat}{f C:Addr}{fd:FuncData}{ps:List Str}{sp:Sp}{dvs:List V}{ds:List Value}{E:XK}{x m:Str}{p pos apos:Pos}{e o:Expr}{es:List Expr}{ta:TE}{t:TA}
theorem run_fn {pins:List (Addr × Obj)}{σ:St}{H:Hp}{s:Shared}{Q:VK}{us:List Value}{vs:List V} (F:FnOk X.prog X.w X.K X.mg X.base CX k f fd ps sp) (hr:Room k X.A) (hb:Binds X.K fd ps ds) (hd:Vals dvs ds) (hx:Passes CX X E)
  (I:Inv X pins σ H s) (r:Vals vs us) (h:sp (vs++dvs) H Q E):wpAny (model X.prog X.w) X.A (call (.ref f) us) (EP X pins σ Q) X.xe s:=by
 have r2:Vals (vs++dvs) (us++ds):=r.append hd
 have hl:(us++ds).length=ps.length:=by rw [← r2.length];exact F.len _ _ _ _ h
 refine wpAny_call (codeAny_mono (F.run X.A X.stack s H ⟨us,[]⟩ (us++ds) (vs++dvs) Q E hr I.env0 (hb s us I.kIn hl) r2 h) fun r s' hq=>?_)
 cases r with
 | error e=>exact hx pins σ H s e s' I hq
 | ok fl =>
  cases fl with
  | ret u=>exact I.after hq
  | next=>exact False.elim hq
  | brk=>exact False.elim hq
  | cont=>exact False.elim hq
theorem pe_call (F:FnOk X.prog X.w X.K X.mg X.base CX k f fd ps sp) (hr:Room k X.A) (hg:Gl X x) (hm:X.mg x=some (.ref f)) (hk:PySem.W.keepIn X.K (.ref f)=true) (hb:Binds X.K fd ps ds) (hd:Vals dvs ds) (hx:Passes CX X E)
  (ha:PA X (e::es) t) (hdb:(x == ("__debug__":Str))=false:=by decide) (he:starEach (e::es) X.env=(false,eval e X.env)::starEach es X.env:=by rfl) (hpl:(backTo pos (starEach es X.env)).any (·.1)=false:=by rfl) :
  PE X (.Call (.Name x p) (e::es) [] pos) (tCall sp dvs E t):=by
 intro pins s σ H Q I h
 refine wpAny_Call_Name_kw (ld_glob I hg hm ?_ hdb)
 refine PySem.W.callWith_K (h₀:=X.base) I.ok.mod.kin hk (thn (ha pos pins s σ H _ I h) fun us s1 ⟨vs,H1,I1,r,q⟩=>⟨I1.kIn,?_⟩) he hpl
 exact run_fn F hr hb hd hx I1 r q
theorem pe_meth {pl:Sem Bool} (he:PE X o ta) (c:Cls X.K C) (hm:Meth X.K C m f) (F:FnOk X.prog X.w X.K X.mg X.base CX k f fd ps sp) (hr:Room k X.A) (hb:Binds X.K fd ps ds) (hd:Vals dvs ds) (hx:Passes CX X E) (ha:PA X (e::es) t)
  (hst:starEach (e::es) X.env=(false,eval e X.env)::starEach es X.env:=by rfl) (hpl:(backTo pos (starEach es X.env)).any (·.1)=false:=by rfl)
  (ht:eval (.Call (.Attribute o m apos) (e::es) [] pos) X.env=(do
   let ov ← eval o X.env
   standAt apos.atName
   let (f,first) ← holding [ov] (getMethod ov m pl)
   callWith pos f first (backTo pos (starEach (e::es) X.env)) (backToKw pos (keywordEach [] X.env))):=by rfl) :
  PE X (.Call (.Attribute o m apos) (e::es) [] pos) (tMeth C m sp dvs E ta t):=by
 intro pins s σ H Q I h
 refine PySem.W.methodCall_KW (pl:=pl) (thn (he pins s σ H _ I h) fun u s1 ⟨x,H1,I1,rx,a,dx,fs,ex,ea,l,q⟩=>?_) ht
 subst ex
 obtain rfl:u=Value.ref a:=rx
 refine getmeth_ok I1 ea c hm l ?_
 refine PySem.W.callWith_K (first:=[.ref a]) (h₀:=X.base) I.ok.mod.kin hm.kp (thn (ha pos pins s1 σ H1 _ I1 q) fun us s2 ⟨vs,H2,I2,r,q2⟩=>⟨I2.kIn,?_⟩) hst hpl
 exact run_fn (us:=.ref a::us) (vs:=.ref a::vs) F hr hb hd hx I2 (.cons rfl r) q2
theorem pe_meth0 {pl:Sem Bool} (he:PE X o ta) (c:Cls X.K C) (hm:Meth X.K C m f) (F:FnOk X.prog X.w X.K X.mg X.base CX k f fd ps sp) (hr:Room k X.A) (hb:Binds X.K fd ps ds) (hd:Vals dvs ds) (hx:Passes CX X E)
  (ht:eval (.Call (.Attribute o m apos) [] [] pos) X.env=(do
   let ov ← eval o X.env
   standAt apos.atName
   let (f,first) ← holding [ov] (getMethod ov m pl)
   callWith pos f first (backTo pos (starEach [] X.env)) (backToKw pos (keywordEach [] X.env))):=by rfl) :
  PE X (.Call (.Attribute o m apos) [] [] pos) (tMeth C m sp dvs E ta tNil):=by
 intro pins s σ H Q I h
 refine PySem.W.methodCall_KW (pl:=pl) (thn (he pins s σ H _ I h) fun u s1 ⟨x,H1,I1,rx,a,dx,fs,ex,ea,l,q⟩=>?_) ht
 subst ex
 obtain rfl:u=Value.ref a:=rx
 refine getmeth_ok I1 ea c hm l ?_
 exact PySem.W.callWith_K0 (first:=[.ref a]) I1.kIn hm.kp (run_fn (us:=[.ref a]) (vs:=[.ref a]) F hr hb hd hx I1 (.cons rfl .nil) q)
structure Mk (K:PySem.W.Frag) (C f:Addr):Prop where
 makes:PySem.W.makesIn K C=true
 init:PySem.W.findIn K (.ref C) "__init__"=some (some (.ref f))
 fn:PySem.W.isFn K (.ref f)=true
 kp:PySem.W.keepIn K (.ref C)=true
theorem run_make {pins:List (Addr × Obj)}{σ:St}{H:Hp}{s:Shared}{Q:VK}{us:List Value}{vs:List V} (M:Mk X.K C f) (F:FnOk X.prog X.w X.K X.mg X.base CX k f fd ps sp) (hr:Room (k+1) X.A) (hb:Binds X.K fd ps ds) (hd:Vals dvs ds)
  (hx:Passes CX X E) (I:Inv X pins σ H s) (r:Vals vs us)
  (h:∀ x dx,H x=none→H dx=none→dx≠x→sp (.ref x::(vs++dvs)) (upd (upd H dx (.own x)) x (.ins C dx [])) (fun v H2=>v=.non∧Q (.ref x) H2) E) :
  wpAny (model X.prog X.w) X.A (call (.ref C) us) (EP X pins σ Q) X.xe s:=by
 have hq:=h (s.heap.objs.size+1) s.heap.objs.size (I.hok.fresh (Nat.le_succ _)) (I.hok.fresh (Nat.le_refl _)) (Nat.ne_of_lt (Nat.lt_succ_self _))
 have I2:=Inv.made (C:=C) I
 have r2:Vals (V.ref (s.heap.objs.size+1)::(vs++dvs)) (Value.ref (s.heap.objs.size+1)::(us++ds)):=.cons rfl (r.append hd)
 have hl:(Value.ref (s.heap.objs.size+1)::us++ds).length=ps.length:=by
  have e:=r2.length
  rw [F.len _ _ _ _ hq] at e
  exact e.symm
 refine wpAny_call (make_map (f:=f) I.kIn M.makes M.init (beq_iff_eq.mp M.fn) (codeAny_mono (F.run _ X.stack _ _ ⟨Value.ref (s.heap.objs.size+1)::us,[]⟩ (Value.ref (s.heap.objs.size+1)::(us++ds)) _ _ E (hr.make C us [])
  (I2.env0.make C us []) (hb _ (Value.ref (s.heap.objs.size+1)::us) I2.kIn hl) r2 hq) fun r s' hq'=>?_))
 cases r with
 | error e=>exact hx pins σ _ _ e s' I2 hq'
 | ok fl =>
  cases fl with
  | ret u =>
   obtain ⟨v,H',I3,rv,ev,q3⟩:=I2.after hq'
   subst ev
   exact ⟨rv,⟨V.ref (s.heap.objs.size+1),H',I3,rfl,q3⟩⟩
  | next=>exact False.elim hq'
  | brk=>exact False.elim hq'
  | cont=>exact False.elim hq'
theorem pe_make (M:Mk X.K C f) (F:FnOk X.prog X.w X.K X.mg X.base CX k f fd ps sp) (hr:Room (k+1) X.A) (hg:Gl X x) (hm:X.mg x=some (.ref C)) (hb:Binds X.K fd ps ds) (hd:Vals dvs ds) (hx:Passes CX X E)
  (ha:PA X (e::es) t) (hdb:(x == ("__debug__":Str))=false:=by decide) (he:starEach (e::es) X.env=(false,eval e X.env)::starEach es X.env:=by rfl) (hpl:(backTo pos (starEach es X.env)).any (·.1)=false:=by rfl) :
  PE X (.Call (.Name x p) (e::es) [] pos) (tMake C sp dvs E t):=by
 intro pins s σ H Q I h
 refine wpAny_Call_Name_kw (ld_glob I hg hm ?_ hdb)
 refine PySem.W.callWith_K (h₀:=X.base) I.ok.mod.kin M.kp (thn (ha pos pins s σ H _ I h) fun us s1 ⟨vs,H1,I1,r,q⟩=>⟨I1.kIn,?_⟩) he hpl
 exact run_make M F hr hb hd hx I1 r q
theorem pe_make0 (M:Mk X.K C f) (F:FnOk X.prog X.w X.K X.mg X.base CX k f fd ps sp) (hr:Room (k+1) X.A) (hg:Gl X x) (hm:X.mg x=some (.ref C)) (hb:Binds X.K fd ps ds) (hd:Vals dvs ds) (hx:Passes CX X E)
  (hdb:(x == ("__debug__":Str))=false:=by decide):PE X (.Call (.Name x p) [] [] pos) (tMake C sp dvs E tNil):=by
 intro pins s σ H Q I h
 refine wpAny_Call_Name_kw (ld_glob I hg hm ?_ hdb)
 exact PySem.W.callWith_K0 I.kIn M.kp (run_make (us:=[]) M F hr hb hd hx I .nil h)
end
structure FnScope (N P:List Str) (sc:Scope):Prop where
 kind:sc.kind=.function
 co:sc.isCoroutine=false
 gen:sc.isGenerator=false
 nd:N.Nodup
 pre:N.take P.length=P
 par:∀ x∈P,sc.names.lookup x=some .local∨sc.names.lookup x=some .cell
 nofree:∀ y∈sc.names,y.2≠.free
theorem bindL_out {kindOf:Str→Option NameKind}{x:Str}:∀ {binds:List (Str × Value)}{m:Str→Option Value},(∀ v,(x,v)∉binds)→bindL kindOf binds m x=m x
 | [],_,_=>rfl
 | (n,v)::r,m,h=>by
  unfold bindL
  rw [bindL_out fun w hw=>h w (List.mem_cons_of_mem _ hw)]
  split
  ·have:x≠n:=by rintro rfl;exact h v List.mem_cons_self
   simp [this]
  ·rfl
theorem bindC_out {kindOf:Str→Option NameKind}{x:Str}:∀ {binds:List (Str × Value)}{m:Str→Option Value},(∀ v,(x,v)∉binds)→bindC kindOf binds m x=m x
 | [],_,_=>rfl
 | (n,v)::r,m,h=>by
  unfold bindC
  rw [bindC_out fun w hw=>h w (List.mem_cons_of_mem _ hw)]
  split
  ·rfl
  ·have:x≠n:=by rintro rfl;exact h v List.mem_cons_self
   simp [this]
theorem bindL_get {kindOf:Str→Option NameKind}{x:Str}{v:Value}:∀ {P:List Str}{vs:List Value}{i:Nat}{m:Str→Option Value},P.Nodup→P[i]?=some x→vs[i]?=some v→kindOf x=some .local →
  bindL kindOf (P.zip vs) m x=some v
 | [],_,_,_,_,h,_,_=>by simp at h
 | _::_,[],_,_,_,_,h,_=>by simp at h
 | p::P,w::vs,0,m,nd,h1,h2,hk=>by
  simp at h1 h2;subst h1;subst h2
  show bindL kindOf ((p,w)::P.zip vs) m p=_
  unfold bindL
  rw [bindL_out fun v hv=>(List.nodup_cons.mp nd).1 (List.of_mem_zip hv).1,if_pos hk]
  simp
 | p::P,w::vs,i+1,m,nd,h1,h2,hk=>by
  show bindL kindOf ((p,w)::P.zip vs) m x=_
  unfold bindL
  exact bindL_get (i:=i) (List.nodup_cons.mp nd).2 (by simpa using h1) (by simpa using h2) hk
theorem bindC_get {kindOf:Str→Option NameKind}{x:Str}{v:Value}:∀ {P:List Str}{vs:List Value}{i:Nat}{m:Str→Option Value},P.Nodup→P[i]?=some x→vs[i]?=some v→kindOf x≠some .local →
  bindC kindOf (P.zip vs) m x=some v
 | [],_,_,_,_,h,_,_=>by simp at h
 | _::_,[],_,_,_,_,h,_=>by simp at h
 | p::P,w::vs,0,m,nd,h1,h2,hk=>by
  simp at h1 h2;subst h1;subst h2
  show bindC kindOf ((p,w)::P.zip vs) m p=_
  unfold bindC
  rw [bindC_out fun v hv=>(List.nodup_cons.mp nd).1 (List.of_mem_zip hv).1,if_neg hk]
  simp
 | p::P,w::vs,i+1,m,nd,h1,h2,hk=>by
  show bindC kindOf ((p,w)::P.zip vs) m x=_
  unfold bindC
  exact bindC_get (i:=i) (List.nodup_cons.mp nd).2 (by simpa using h1) (by simpa using h2) hk
def start (N:List Str) (vs:List V):St:=vs.map some++List.replicate (N.length - vs.length) none
def cxOf (CX:CXT) (P:Program) (w:World) (K:PySem.W.Frag) (mg:Str→Option Value) (base:Heap) (N:List Str) (qual:Str) (scope:Scope) (f:Addr) (cd:Value) (A:Around) (outer:List Env) (s:Shared) (H:Hp) (E:XK):Cx where
 prog:=P
 w:=w
 K:=K
 mg:=mg
 base:=base
 A:=A.deeper (envOfC qual scope s.heap.objs.size f cd)
 N:=N
 s_0:=s
 H_0:=H
 env:=envOfC qual scope s.heap.objs.size f cd
 outer:=outer
 stack:=envOfC qual scope s.heap.objs.size f cd::outer
 ex:=[]
 calm:=true
 fn:=fun _=>true
 pn:=[]
 xe:=fun e s'=>wpAny (model P w) (A.deeper (envOfC qual scope s.heap.objs.size f cd)) (leaving (envOfC qual scope s.heap.objs.size f cd) e) (fun _ s''=>CX outer H s E e s'') (fun e' s''=>CX outer H s E e' s'') s'
theorem cell_has {sc:Scope}{n:Nat}{x:Str} (h:sc.names.lookup x=some .cell):∃ c,(cellsFrom n sc.names []).lookup x=some c:=by
 have q:=PySem.W.cellsFrom_some sc.names n [] (.inl h)
 exact Option.isSome_iff_exists.mp q
theorem inv_start {CX:CXT}{P:Program}{w:World}{K:PySem.W.Frag}{mg:Str→Option Value}{base:Heap}{N ps:List Str}{qual:Str}{scope:Scope}{f:Addr}{cd:Value}{A:Around}{outer:List Env}{s s1:Shared}{H:Hp}{E:XK}{us:List Value}{vs:List V}
  (S:FnScope N ps scope) (hd:A.handled=none) (e0:Env0 P w K mg base A outer s H) (hl:vs.length=ps.length) (r:Vals vs us)
  (x:InCallC s s.heap.objs.size (bindL (envOfC qual scope s.heap.objs.size f cd).kindOf (ps.zip us) fun _=>none) (cellsFrom (s.heap.objs.size+1) scope.names []) (bindC (envOfC qual scope s.heap.objs.size f cd).kindOf (ps.zip us) fun _=>none) s1) :
  Inv (cxOf CX P w K mg base N qual scope f cd A outer s H E) [] (start N vs) H s1:=by
 have hpl:ps.length≤N.length:=by have:=congrArg List.length S.pre;rw [List.length_take] at this;omega
 obtain ⟨h1,tk,rfl,hk⟩:=x.done
 have noA:∀ b:Addr,b∉(cxOf CX P w K mg base N qual scope f cd A outer s H E).ex:=fun b z=>absurd (show b∈([]:List Addr) from z) (by simp)
 refine ⟨⟨e0.mod,S.kind,rfl,rfl,Nat.le_refl _,fun y z c h1 h2=>?_,fun y hy=>?_,fun y c _ h=>?_,fun _=>hd,Around.frames_deeper e0.frames,.inr ⟨rfl,rfl⟩,fun b z=>absurd z (noA b),e0.bs,e0.bsz,fun b _ _=>noA b,fun b z=>absurd z (noA b),e0.funs,e0.frf⟩,
  rfl,e0.bare,Un.kept hk,⟨_,x.toInCall.ns,fun i y v h1 h2 h3=>?_⟩,fun y c h=>⟨_,x.cell y c h⟩,e0.hok.fresh (Nat.le_refl _),fun y c h=>?_,fun p hp=>absurd (show p∈([]:List (Addr × Obj)) from hp) (by simp),e0.hok.kept hk,?_⟩
 ·exact name_of_addr x.apart (PySem.mem_of_lookup h1) (PySem.mem_of_lookup h2)
 ·have hy:scope.names.lookup y=some .cell∨scope.names.lookup y=some .free:=hy
  rcases hy with hy | hy
  ·exact cell_has hy
  ·exact absurd rfl (S.nofree _ (PySem.mem_of_lookup hy))
 ·exact Nat.le_of_lt (x.above y c (PySem.mem_of_lookup h))
 ·have hi:i<vs.length:=by
   unfold start at h2
   by_cases hi:i<vs.length
   ·exact hi
   ·rw [List.getElem?_append_right (by simpa using hi)] at h2
    rw [List.getElem?_replicate] at h2
    split at h2<;>cases h2
  have ha:vs[i]?=some v:=by
   unfold start at h2
   rw [List.getElem?_append_left (by simpa using hi),List.getElem?_map] at h2
   cases e:vs[i]? with
   | none=>rw [e] at h2;cases h2
   | some a=>rw [e] at h2;cases h2;rfl
  obtain ⟨u,hu,rv⟩:=r.get ha
  have hp:ps[i]?=some y:=by
   rw [← S.pre,List.getElem?_take_of_lt (by omega)];exact h1
  have ndP:ps.Nodup:=by rw [← S.pre];exact S.nd.sublist (List.take_sublist _ _)
  refine ⟨u,rv,?_⟩
  rcases S.par y (List.mem_of_getElem? hp) with k | k
  ·exact .inl ⟨k,bindL_get ndP hp hu k⟩
  ·obtain ⟨c,e⟩:=cell_has (n:=s.heap.objs.size+1) k
   refine .inr ⟨.inl k,c,e,?_⟩
   have q:=x.cell y c e
   rw [bindC_get ndP hp hu (by show scope.names.lookup y≠_;rw [k];decide)] at q
   exact q
 ·exact e0.hok.fresh (Nat.le_of_lt (x.above y c (PySem.mem_of_lookup h)))
 ·unfold start
  show _=N.length
  rw [List.length_append,List.length_map,List.length_replicate]
  omega
theorem fn_of {CX:CXT}{P:Program}{w:World}{K:PySem.W.Frag}{mg:Str→Option Value}{base:Heap}{k:Nat}{f:Addr}{name qual:Str}{params:Arguments}{body:List Stmt}{scope:Scope}{dV kV doc pm cdv ct oc:Value}{an od:Option Addr}
  {osl:Array (Option Value)}{N ps:List Str}{sp:Sp} (lk:K.lookup f=some ⟨oc,od,.func (PySem.W.fnOf name qual params body scope dV kV doc pm an cdv ct),osl⟩) (hcd:PySem.W.codeIn K cdv qual=true) (S:FnScope N ps scope)
  (len:∀ vs H Q E,sp vs H Q E→vs.length=ps.length)
  (hbody:∀ (A:Around) (outer:List Env) (s:Shared) (H:Hp) (vs:List V) (Q:VK) (E:XK),Room k (A.deeper (envOfC qual scope s.heap.objs.size f cdv))→sp vs H Q E →
   ∃ t,PSs (cxOf CX P w K mg base N qual scope f cdv A outer s H E) body t∧t { nx:=fun _ H'=>Q .non H',rt:=Q } (start N vs) H) :
  FnOk P w K mg base CX (k+1) f (PySem.W.fnOf name qual params body scope dV kV doc pm an cdv ct) ps sp:=by
 refine ⟨len,fun A outer s H args us vs Q E hr e0 hb r hsp=>?_⟩
 have hl:=len _ _ _ _ hsp
 have KX:K.In s.heap:=e0.mod.kin.keeps fun b o e=>(e0.bs b o e).1
 have lim:s.heap.NoLimit:=e0.mod.nolimit.keeps fun b o e=>(e0.bs b o e).1
 have hkind:∀ y∈ps.zip us,scope.names.lookup y.1=some .local∨(scope.names.lookup y.1=some .cell∧((cellsFrom (s.heap.objs.size+1) scope.names []).lookup y.1).isSome=true):=fun ⟨n,v⟩ hy=>by
  rcases S.par n (List.of_mem_zip hy).1 with q | q
  ·exact .inl q
  ·exact .inr ⟨q,PySem.W.cellsFrom_some _ _ _ (.inl q)⟩
 refine codeAny_call_function hr.depth (KX _ _ lk) rfl S.co S.gen rfl (PySem.W.codeRec_of KX hcd) (hb _ _ _ _ ?_)
 refine wpAny_newFunctionEnv_cells S.kind hkind fun env he s1 x=>?_
 subst he
 refine ⟨lim.keeps x.toInCall.keep,codeAny_func ?_⟩
 obtain ⟨t,ht,hq⟩:=hbody A outer s H vs Q E (hr.deeper _) hsp
 have I:Inv (cxOf CX P w K mg base N qual scope f cdv A outer s H E) [] (start N vs) H s1:=inv_start S hr.hd e0 hl r x
 refine wpAny_mono (ht [] s1 (start N vs) H _ I hq) (fun fl s' hs=>?_) fun e s' hs=>hs
 have fin:∀ {σ':St}{H':Hp}{v:V}{u:Value},Inv (cxOf CX P w K mg base N qual scope f cdv A outer s H E) [] σ' H' s'→RelV v u→Q v H'→CE outer P w H s Q u s' :=
  fun {σ' H' v u} J rv q=>⟨v,H',J.os,J.bare,J.base,J.hok,rv,q⟩
 cases fl with
 | ret u =>
  obtain ⟨v,σ',H',J,rv,q⟩:=hs
  exact fin J rv q
 | next =>
  obtain ⟨σ',H',J,q⟩:=hs
  exact fin (v:=V.non) (u:=Value.none) J rfl q
 | brk =>
  obtain ⟨_,_,_,q⟩:=hs
  exact False.elim q
 | cont =>
  obtain ⟨_,_,_,q⟩:=hs
  exact False.elim q
end L2
namespace L2
open PySem PySem.Spec PyProof.Rows
section
variable {X:Cx}{x:Str}{p pos:Pos}{e:Expr}{es:List Expr}{t:TA}{id T:String}{r:List V→Hp→VK→Prop}
def tCB (r:List V→Hp→VK→Prop) (t:TA):TE:=fun σ H Q=>t σ H fun vs H1=>r vs H1 Q
theorem pe_callB (hc:CallR X (.builtin id) r) (hg:Gl X x) (hm:X.mg x=none) (hv:bootBuiltins x=some (.builtin id)) (ha:PA X (e::es) t) (hn:x≠"__name__":=by decide) (hdb:(x == ("__debug__":Str))=false:=by decide)
  (he:starEach (e::es) X.env=(false,eval e X.env)::starEach es X.env:=by rfl) (hpl:(backTo pos (starEach es X.env)).any (·.1)=false:=by rfl):PE X (.Call (.Name x p) (e::es) [] pos) (tCB r t):=by
 intro pins s σ H Q I h
 refine wpAny_Call_Name_kw (ld_blt I hg hm hv ?_ hn hdb)
 exact PyProof.Rows.callWith_builtin1 (thn (ha pos pins s σ H _ I h) fun us s1 ⟨vs,H1,I1,r1,q1⟩=>hc pins s1 σ H1 vs us Q I1 r1 q1) he hpl
theorem pe_callTy (hc:CallR X (.type T) r) (hg:Gl X x) (hm:X.mg x=none) (hv:bootBuiltins x=some (.type T)) (ha:PA X (e::es) t) (hn:x≠"__name__":=by decide) (hdb:(x == ("__debug__":Str))=false:=by decide)
  (he:starEach (e::es) X.env=(false,eval e X.env)::starEach es X.env:=by rfl) (hpl:(backTo pos (starEach es X.env)).any (·.1)=false:=by rfl):PE X (.Call (.Name x p) (e::es) [] pos) (tCB r t):=by
 intro pins s σ H Q I h
 refine wpAny_Call_Name_kw (ld_blt I hg hm hv ?_ hn hdb)
 exact PyProof.Rows.callWith_type1 (thn (ha pos pins s σ H _ I h) fun us s1 ⟨vs,H1,I1,r1,q1⟩=>hc pins s1 σ H1 vs us Q I1 r1 q1) he hpl
end
end L2
namespace HT
open PySem PyProof.Rows
section
variable {prog:Program}{w:World}{A:Around}{E:Value→Shared→Prop}{s:Shared}
def sIx (n d:Nat):Option Int→Nat
 | none=>d
 | some v=>if v<0 then (v+(n:Int)).toNat else min v.toNat n
theorem sIx_none (n d:Nat):sIx n d none=d:=rfl
theorem sIx_nat (n d k:Nat):sIx n d (some (k:Int))=min k n:=by
 show (if (k:Int)<0 then ((k:Int)+(n:Int)).toNat else min (k:Int).toNat n)=min k n
 rw [if_neg (by omega),Int.toNat_natCast]
end
end HT
namespace L2
open PySem PySem.Spec PyProof.Rows
abbrev TO:=St→Hp→(Option Int→Hp→Prop)→Prop
def PO (X:Cx) (e:Option Expr) (t:TO):Prop :=
 ∀ (pins:List (Addr × Obj)) (s:Shared) (σ:St) (H:Hp) (Q:Option Int→Hp→Prop),Inv X pins σ H s→t σ H Q →
  wpAny (model X.prog X.w) X.A (evalPart e X.env) (fun u s'=>∃ o H',Inv X pins σ H' s'∧IsPart u o∧Q o H') X.xe s
def tNoPart:TO:=fun _ H Q=>Q none H
def tPart (t:TE):TO:=fun σ H Q=>t σ H fun x H1=>∃ i,x=.int i∧Q (some i) H1
section
variable {X:Cx}{e:Expr}{te:TE}{lo hi:Option Expr}{tl th:TO}{pos p2:Pos}
theorem po_none:PO X none tNoPart:=by
 intro pins s σ H Q I h
 rw [evalPart_none]
 exact wpAny_pure ⟨none,H,I,.none,h⟩
theorem po_some (h:PE X e te):PO X (some e) (tPart te):=by
 intro pins s σ H Q I hw
 rw [evalPart_some]
 refine thn (h pins s σ H _ I hw) fun u s1 ⟨x,H1,I1,r1,q1⟩=>?_
 obtain ⟨i,rfl,q⟩:=q1
 obtain ⟨t,rfl⟩:=r1
 exact ⟨some i,H1,I1,.int i t,q⟩
def SlR (X:Cx) (r:V→Option Int→Option Int→Hp→VK→Prop):Prop :=
 ∀ (pins:List (Addr × Obj)) (s:Shared) (σ:St) (H:Hp) (x:V) (v vl vu:Value) (lo hi:Option Int) (sl:Addr) (Q:VK),Inv X pins σ H s→RelV x v→s.heap.IsSliceOf sl vl vu .none→IsPart vl lo→IsPart vu hi→r x lo hi H Q →
  ∃ T id,typeLookup (.type T) "__getitem__"=pure (some (.builtin id))∧s.TypeIs v T∧wpAny (model X.prog X.w) X.A (getItem v (.ref sl)) (EP X pins σ Q) X.xe s
def tSl (r:V→Option Int→Option Int→Hp→VK→Prop) (te:TE) (tl th:TO):TE:=fun σ H Q=>te σ H fun x H1=>tl σ H1 fun l H2=>th σ H2 fun u H3=>r x l u H3 Q
theorem pe_slice {r:V→Option Int→Option Int→Hp→VK→Prop} (hr:SlR X r) (he:PE X e te) (hl:PO X lo tl) (hu:PO X hi th):PE X (.Subscript e (.Slice lo hi none p2) pos) (tSl r te tl th):=by
 intro pins s σ H Q I h
 refine Subscript_ (thn (he pins s σ H _ I h) fun v s1 ⟨x,H1,I1,r1,q1⟩=>?_)
 refine wpAny_Slice (thn (hl pins s1 σ H1 _ I1 q1) fun vl s2 ⟨l,H2,I2,pl,q2⟩=>thn (hu pins s2 σ H2 _ I2 q2) fun vu s3 ⟨u,H3,I3,pu,q3⟩=>?_)
 rw [evalPart_none]
 refine wpAny_pure ?_
 have I4:Inv X pins σ H3 { s3 with heap:=s3.heap.push { cls:=.type "slice",data:=.fields #[vl,vu,.none] } }:=I3.kept (t':=s3.toks) fun b ob q=>Heap.get?_push_of_some _ q
 obtain ⟨T,id,hT,ht,hg⟩:=hr pins { s3 with heap:=s3.heap.push { cls:=.type "slice",data:=.fields #[vl,vu,.none] } } σ H3 x v vl vu l u s3.heap.objs.size Q I4 r1 (Heap.IsSliceOf.new ..) pl pu q3
 show wpAny (model X.prog X.w) X.A (subscriptTail e (.Slice lo hi none p2) v (.ref s3.heap.objs.size)) (EP X pins σ Q) X.xe { s3 with heap:=s3.heap.push { cls:=.type "slice",data:=.fields #[vl,vu,.none] } }
 exact tail_any (ops:=[.ref s3.heap.objs.size,v]) ht hT hg (by with_unfolding_all rfl)
def cutV (xs:List V) (lo hi:Option Int):List V:=(xs.drop (HT.sIx xs.length 0 lo)).take (HT.sIx xs.length xs.length hi - HT.sIx xs.length 0 lo)
theorem cutV_length (xs:List V) (lo hi:Option Int):(cutV xs lo hi).length≤xs.length:=by
 unfold cutV
 rw [List.length_take,List.length_drop]
 omega
end
end L2
namespace L2
open PySem PySem.Spec PyProof.Rows
def ixN (n:Nat) (i:Int):Option Nat:=if 0≤i then (if i<n then some i.toNat else none) else if -(n:Int)≤i then some (i+n).toNat else none
def atI {α:Type} (xs:List α) (i:Int):Option α:=(ixN xs.length i).bind fun j=>xs[j]?
theorem ixN_seq {n:Nat}{i:Int}{j:Nat} (h:ixN n i=some j):seqIndex? i n=some j∧j<n∧-(n:Int)≤i∧i<n:=by
 unfold ixN at h
 by_cases h0:0≤i
 ·rw [if_pos h0] at h
  by_cases h1:i<n
  ·rw [if_pos h1] at h
   have e:i.toNat=j:=Option.some.inj h
   exact ⟨by rw [seqIndex_of h0 h1,e],by omega,by omega,h1⟩
  ·rw [if_neg h1] at h;cases h
 ·rw [if_neg h0] at h
  by_cases h1:-(n:Int)≤i
  ·rw [if_pos h1] at h
   have e:(i+n).toNat=j:=Option.some.inj h
   exact ⟨by rw [seqIndex_neg (by omega) h1,e],by omega,h1,by omega⟩
  ·rw [if_neg h1] at h;cases h
theorem atI_get {α:Type}{xs:List α}{i:Int}{v:α} (h:atI xs i=some v):∃ j,seqIndex? i xs.length=some j∧xs[j]?=some v∧j<xs.length∧-(xs.length:Int)≤i∧i<xs.length:=by
 unfold atI at h
 cases e:ixN xs.length i with
 | none=>rw [e] at h;cases h
 | some j =>
  rw [e] at h
  obtain ⟨h1,h2,h3,h4⟩:=ixN_seq e
  exact ⟨j,h1,h,h2,h3,h4⟩
theorem atI_nat {α:Type}{xs:List α}{j:Nat}{v:α} (h:xs[j]?=some v):atI xs (j:Int)=some v:=by
 have hj:j<xs.length:=(List.getElem?_eq_some_iff.mp h).1
 have e:ixN xs.length (j:Int)=some j:=by
  unfold ixN
  rw [if_pos (by omega),if_pos (by omega)];simp
 unfold atI;rw [e];exact h
def PlainIx (b:Expr):Prop:=∀ o i,subscripted b false o i=operate [o,i] (getItem o i)
def IxR (X:Cx) (r:R2):Prop :=
 ∀ (value slice:Expr) (pins:List (Addr × Obj)) (s:Shared) (σ:St) (H:Hp) (x y:V) (v u:Value) (Q:VK),Inv X pins σ H s→RelV x v→RelV y u→r x y H Q →
  subscripted slice false v u=operate [v,u] (getItem v u)→wpAny (model X.prog X.w) X.A (subscriptTail value slice v u) (EP X pins σ Q) X.xe s
def MtR (X:Cx) (id:String) (r:V→List V→Hp→VK→Prop):Prop :=
 ∀ (pins:List (Addr × Obj)) (s:Shared) (σ:St) (H:Hp) (x:V) (xs:List V) (v:Value) (us:List Value) (Q:VK),Inv X pins σ H s→RelV x v→Vals xs us→r x xs H Q →
  wpAny (model X.prog X.w) X.A (call (.builtin id) (v::us)) (EP X pins σ Q) X.xe s
section
variable {X:Cx}{a b:Expr}{ta tb:TE}{pos:Pos}
theorem pe_ix {r:R2} (hr:IxR X r) (ha:PE X a ta) (hb:PE X b tb) (hs:PlainIx b):PE X (.Subscript a b pos) (tOp r ta tb):=by
 intro pins s σ H Q I h
 exact Subscript_ (binT ha hb I h fun v u s2 x y H2 I2 rx ry q=>hr a b pins s2 σ H2 x y v u Q I2 rx ry q (hs _ _))
def rIxL (K:PySem.W.Frag):R2:=fun x y H Q=>∃ p xs i v,x=.ref p∧y=.int i∧SqL K H p xs∧atI xs i=some v∧Q v H
def rIxT (K:PySem.W.Frag):R2:=fun x y H Q=>∃ p xs i v,x=.ref p∧y=.int i∧SqT K H p xs∧atI xs i=some v∧Q v H
theorem ix_list:IxR X (rIxL X.K):=by
 intro value slice pins s σ H x y v u Q I rx ry h hs
 obtain ⟨p,xs,i,z,rfl,rfl,hq,he,q⟩:=h
 cases rx
 obtain ⟨t,rfl⟩:=ry
 obtain ⟨its,r,pl,hz⟩:=I.list hq
 obtain ⟨j,h1,h2,h3,h4,h5⟩:=atI_get he
 obtain ⟨w,ew,rw'⟩:=r.get h2
 have hl:=r.length
 have hn:=line63
 have fin:EP X pins σ Q w s:=⟨z,H,I,rw',q⟩
 by_cases h0:0≤i
 ·have hj:i.toNat=j:=by
   rw [seqIndex_of h0 h5] at h1
   exact Option.some.inj h1
  exact item_listR pl.isList h0 (by omega) (by rw [hj];simpa using ew) fin hs
 ·have hj:(i+(its.toArray.size:Int)).toNat=j:=by
   rw [seqIndex_neg (by omega) h4] at h1
   rw [List.size_toArray,← hl]
   exact Option.some.inj h1
  exact subscriptTail_builtinR (x:=w) pl.isList.typeIs slot_list_getitem.lookup
   (wpAny_getItem_list_neg (Q:=fun r s'=>r=w∧EP X pins σ Q r s') pl.isList (by omega) (by rw [List.size_toArray]<;>omega) (by omega) (by rw [hj];simpa using ew) ⟨rfl,fin⟩) hs
theorem ix_tup:IxR X (rIxT X.K):=by
 intro value slice pins s σ H x y v u Q I rx ry h hs
 obtain ⟨p,xs,i,z,rfl,rfl,hq,he,q⟩:=h
 cases rx
 obtain ⟨t,rfl⟩:=ry
 obtain ⟨its,r,pl,hz⟩:=I.tuple hq
 obtain ⟨j,h1,h2,h3,h4,h5⟩:=atI_get he
 obtain ⟨w,ew,rw'⟩:=r.get h2
 have hl:=r.length
 have hn:=line63
 have fin:EP X pins σ Q w s:=⟨z,H,I,rw',q⟩
 exact subscriptTail_builtinR (x:=w) pl.typeIs slot_tuple_getitem.lookup
  (getItem_tuple (j:=j) (Q:=fun r s'=>r=w∧EP X pins σ Q r s') pl (by omega) (by omega) (by rw [List.size_toArray,← hl];exact h1) (by simpa using ew) ⟨rfl,fin⟩) hs
theorem mapSeq_set (its:List Value) (n j:Nat) (u:Value):Obj.mapSeq (·.setIfInBounds j u) { cls:=.type "list",data:=.seq its.toArray n }={ cls:=.type "list",data:=.seq (its.set j u).toArray n }:=by
 simp [Obj.mapSeq]
theorem Inv.lst {pins:List (Addr × Obj)}{σ:St}{H:Hp}{s:Shared}{p:Addr}{xs:List V} (I:Inv X pins σ H s) (h:H p=some (.lst xs)) :
  ∃ (its:List Value) (n:Nat),Vals xs its∧s.heap.get? p=some { cls:=.type "list",data:=.seq its.toArray n }∧xs.length≤sizeLine:=by
 obtain ⟨z,its,n,r,e⟩:=I.hok p _ h
 exact ⟨its,n,r,e,z⟩
theorem Inv.lstUpd {pins:List (Addr × Obj)}{σ:St}{H:Hp}{s:Shared}{p:Addr}{xs ys:List V}{its its':List Value}{n n':Nat}{f:Obj→Obj} (I:Inv X pins σ H s) (h:H p=some (.lst xs))
  (ho:s.heap.get? p=some { cls:=.type "list",data:=.seq its.toArray n }) (hf:f { cls:=.type "list",data:=.seq its.toArray n }={ cls:=.type "list",data:=.seq its'.toArray n' }) (r:Vals ys its') (hz:ys.length≤sizeLine) (t:Nat) :
  Inv X pins σ (upd H p (.lst ys)) { s with heap:=s.heap.update p f,toks:=t }:=by
 have e:(s.heap.update p f).get? p=some { cls:=.type "list",data:=.seq its'.toArray n' }:=by
  rw [Heap.get?_update_self f ho (by rw [hf]<;>rfl),hf]
 refine I.write (x:=p) (e:=p) (by rw [h];trivial) (.inl rfl) (fun b u hb q=>(Heap.get?_update_other _ _ (Ne.symm hb)).trans q) ⟨_,e⟩ ?_
 exact ⟨hz,its',n',r,e⟩
def rSetL:V→V→V→Hp→(Hp→Prop)→Prop:=fun o i v H Q=>∃ p xs k j,o=.ref p∧i=.int k∧H p=some (.lst xs)∧ixN xs.length k=some j∧Q (upd H p (.lst (xs.set j v)))
theorem set_list:PSet X rSetL:=by
 intro pins s σ H o i v ov iv u Q I ro ri rv h
 obtain ⟨p,xs,k,j,rfl,rfl,hp,hj,q⟩:=h
 cases ro
 obtain ⟨t,rfl⟩:=ri
 obtain ⟨its,n,r,ho,hz⟩:=I.lst hp
 obtain ⟨h1,h2,h3,h4⟩:=ixN_seq hj
 have hl:=r.length
 have hn:=line63
 have I':Inv X pins σ (upd H p (.lst (xs.set j v))) { s with heap:=s.heap.update p (Obj.mapSeq (·.setIfInBounds j u)) } :=
  I.lstUpd hp ho (mapSeq_set its n j u) (r.set rv j) (by rw [List.length_set];exact hz) s.toks
 by_cases h0:0≤k
 ·have hk:k.toNat=j:=by
   rw [seqIndex_of h0 h4] at h1
   exact Option.some.inj h1
  exact PySem.W.ki_setAt ho h0 (by omega) (by rw [List.size_toArray,← hl];exact h4) (by rw [hk];exact ⟨_,I',q⟩)
 ·have hk:(k+(its.toArray.size:Int)).toNat=j:=by
   rw [seqIndex_neg (by omega) h3] at h1
   rw [List.size_toArray,← hl]
   exact Option.some.inj h1
  exact PySem.W.ki_setBack ho (by omega) (by rw [List.size_toArray,← hl];exact h3) (by omega) (by rw [hk];exact ⟨_,I',q⟩)
theorem slice_bounds (lo hi:Option Int) (n:Nat):(sliceBounds lo hi none n).1=((HT.sIx n 0 lo:Nat):Int)∧(sliceBounds lo hi none n).2.1=((HT.sIx n n hi:Nat):Int)∧(sliceBounds lo hi none n).2.2=1:=by
 refine ⟨?_,?_,rfl⟩
 ·cases lo with
  | none=>simp [sliceBounds,HT.sIx]
  | some i =>
   simp only [sliceBounds,HT.sIx,Option.getD_none,show (1:Int) > 0 by decide,if_true]
   by_cases h:i<0
   ·simp only [h,if_true]<;>omega
   ·simp only [h,if_false]<;>omega
 ·cases hi with
  | none=>simp [sliceBounds,HT.sIx]
  | some i =>
   simp only [sliceBounds,HT.sIx,Option.getD_none,show (1:Int) > 0 by decide,if_true]
   by_cases h:i<0
   ·simp only [h,if_true]<;>omega
   ·simp only [h,if_false]<;>omega
theorem slicePick_cut (its:List Value) (lo hi:Option Int):slicePick its.toArray lo hi none=((its.drop (HT.sIx its.length 0 lo)).take (HT.sIx its.length its.length hi - HT.sIx its.length 0 lo)).toArray:=by
 obtain ⟨h1,h2,h3⟩:=slice_bounds lo hi its.toArray.size
 unfold slicePick
 rw [h1,h2,h3]
 simp only [sliceRange_one,pick_run,List.size_toArray]<;>rfl
def rSlL (K:PySem.W.Frag):V→Option Int→Option Int→Hp→VK→Prop:=fun x lo hi H Q=>∃ a xs,x=.ref a∧SqL K H a xs∧∀ p,H p=none→Q (.ref p) (upd H p (.lst (cutV xs lo hi)))
theorem sl_list:SlR X (rSlL X.K):=by
 intro pins s σ H x v vl vu lo hi sl Q I rx hs pl pu h
 obtain ⟨a,xs,rfl,hx,q⟩:=h
 cases rx
 obtain ⟨its,r,ht,hz⟩:=I.list hx
 have hlen:=r.length
 refine ⟨"list",_,slot_list_getitem.lookup,ht.isList.typeIs,?_⟩
 refine wpAny_getItem_list_slice ht.isList hs pl pu .none (by simp) ?_ (by rw [List.size_toArray]<;>omega)
 rw [slicePick_cut,← hlen]
 refine ⟨.ref s.heap.objs.size,_,I.laid (t':=s.toks) (o:=.lst (cutV xs lo hi)) (fun b ob q=>Heap.get?_push_of_some _ q) (Nat.le_refl _) ?_,rfl,q _ (I.hok.fresh (Nat.le_refl _))⟩
 exact ⟨Nat.le_trans (cutV_length xs lo hi) hz,_,0,(r.drop (HT.sIx xs.length 0 lo)).take (HT.sIx xs.length xs.length hi - HT.sIx xs.length 0 lo),Heap.get?_push_size _ rfl⟩
theorem call_len_seq:CallR X (.builtin "len") (fun xs H Q=>∃ p ys,xs=[.ref p]∧(SqL X.K H p ys∨SqT X.K H p ys)∧Q (.int ys.length) H):=by
 intro pins s σ H xs us Q I r h
 obtain ⟨p,ys,rfl,hq,q⟩:=h
 obtain ⟨u,rfl,rx⟩:=vals1 r
 cases rx
 have hn:=line63
 rcases hq with hq | hq
 ·obtain ⟨its,r',pl,hz⟩:=I.list hq
  have hlen:=r'.length
  exact Calls.call_len_list pl.isList (by simp only [List.size_toArray]<;>omega) ⟨.int ys.length,H,I.tok _,⟨s.toks+1,by rw [List.size_toArray,hlen]⟩,q⟩
 ·obtain ⟨its,r',pl,hz⟩:=I.tuple hq
  have hlen:=r'.length
  exact len_tuple pl (by simp only [List.size_toArray]<;>omega) ⟨.int ys.length,H,I.tok _,⟨s.toks+1,by rw [List.size_toArray,hlen]⟩,q⟩
theorem call_len_str:CallR X (.builtin "len") (fun xs H Q=>∃ z,xs=[.str z]∧z.length≤sizeLine∧Q (.int z.length) H):=by
 intro pins s σ H xs us Q I r h
 obtain ⟨z,rfl,hz,q⟩:=h
 obtain ⟨u,rfl,t,rfl⟩:=vals1 r
 have hn:=line63
 exact len_str (by omega) ⟨.int z.length,H,I.tok _,⟨_,rfl⟩,q⟩
def tyV (K:PySem.W.Frag) (T:String) (x:V) (H:Hp):Prop:=match x with
 | .str _=>T="str"
 | .int _=>T="int"
 | .ref p=>(T="list"∧∃ xs,SqL K H p xs)∨(T="tuple"∧∃ o,K.lookup p=some o∧o.cls=.type "tuple"∧o.dict=none) ∨
   (T="dict"∧((∃ kvs,H p=some (.dK kvs))∨∃ kvs,H p=some (.dT kvs)))∨(T="set"∧∃ S n,H p=some (.set S n))
 | _=>False
theorem tyV_is {pins:List (Addr × Obj)}{σ:St}{H:Hp}{s:Shared}{T:String}{x:V}{v:Value} (I:Inv X pins σ H s) (r:RelV x v) (ty:tyV X.K T x H) :
  s.TypeIs v T∧∀ a,v=.ref a→∃ ob,s.heap.get? a=some ob∧ob.dict=none:=by
 cases x with
 | str z =>
  obtain ⟨t,rfl⟩:=r
  cases (show T="str" from ty)
  exact ⟨typeIs_str s z t,fun _ e=>nomatch e⟩
 | int i =>
  obtain ⟨t,rfl⟩:=r
  cases (show T="int" from ty)
  exact ⟨typeIs_int s i t,fun _ e=>nomatch e⟩
 | ref p =>
  cases r
  rcases ty with ⟨rfl,xs,hq⟩ | ⟨rfl,o,hk,hc,hd⟩ | ⟨rfl,hk⟩ | ⟨rfl,S,n,hk⟩
  ·obtain ⟨its,_,pl,_⟩:=I.list hq
   refine ⟨pl.isList.typeIs,fun a e=>?_⟩
   cases e
   obtain ⟨o,n,e,c,hd,_⟩:=pl
   exact ⟨o,e,hd⟩
  ·refine ⟨⟨o,I.kIn p o hk,hc⟩,fun a e=>?_⟩
   cases e
   exact ⟨o,I.kIn _ o hk,hd⟩
  ·have z:∃ o,s.heap.get? p=some o∧o.ExactDict:=by
    rcases hk with ⟨kvs,hk⟩ | ⟨kvs,hk⟩
    ·obtain ⟨_,_,_,_,o,_,_,e,ex,_⟩:=I.hok p _ hk
     exact ⟨o,e,ex⟩
    ·obtain ⟨_,_,_,_,o,_,_,e,ex,_⟩:=I.hok p _ hk
     exact ⟨o,e,ex⟩
   obtain ⟨o,e,ex⟩:=z
   refine ⟨⟨o,e,ex.1⟩,fun a e2=>?_⟩
   cases e2
   exact ⟨o,e,ex.2.1⟩
  ·obtain ⟨o,_,_,_,e,ex,_⟩:=I.hok p _ hk
   refine ⟨⟨o,e,ex.1⟩,fun a e2=>?_⟩
   cases e2
   exact ⟨o,e,ex.2.1⟩
 | _=>exact False.elim ty
def tBM0 (K:PySem.W.Frag) (T:String) (r:V→List V→Hp→VK→Prop) (to:TE):TE:=fun σ H Q=>to σ H fun x H1=>tyV K T x H1∧r x [] H1 Q
def tBM (K:PySem.W.Frag) (T:String) (r:V→List V→Hp→VK→Prop) (to:TE) (t:TA):TE:=fun σ H Q=>to σ H fun x H1=>tyV K T x H1∧t σ H1 fun xs H2=>r x xs H2 Q
variable {o e:Expr}{es:List Expr}{to:TE}{t:TA}{name:Str}{apos cpos:Pos}{T id:String}{r:V→List V→Hp→VK→Prop}
theorem pe_bm0 (pa:PlainAttrs T) (slot:Slot T name id) (hty:typeOf (.builtin id)=pure (.type "method_descriptor")) (hm:MtR X id r) (ho:PE X o to)
  (hbase:attributeBase o name X.env (eval o X.env)=eval o X.env:=by rfl) (hline:(apos.endLine == cpos.line)=true:=by rfl):PE X (.Call (.Attribute o name apos) [] [] cpos) (tBM0 X.K T r to):=by
 intro pins s σ H Q I h
 refine wpAny_Call_method0_late hbase hline (thn (ho pins s σ H _ I h) fun v s1 ⟨x,H1,I1,r1,ty,q1⟩=>?_)
 obtain ⟨h1,h2⟩:=tyV_is I1 r1 ty
 exact ⟨T,id,pa,slot,hty,h1,h2,Calls.callWith_builtin rfl (PySem.evalArgs_none (hm pins s1 σ H1 x [] v [] Q I1 r1 .nil q1))⟩
theorem pe_bm (pa:PlainAttrs T) (slot:Slot T name id) (hty:typeOf (.builtin id)=pure (.type "method_descriptor")) (hm:MtR X id r) (ho:PE X o to) (ha:PA X (e::es) t)
  (hbase:attributeBase o name X.env (eval o X.env)=eval o X.env:=by rfl)
  (hfew:((backTo cpos (starEach (e::es) X.env)).all (fun x=>!x.1) && (backToKw cpos (keywordEach [] X.env)).all (fun x=>x.1.isSome)
   && decide ((e::es).length+([]:List Keyword).length+(if ([]:List Keyword).isEmpty then 0 else 1)<30))=true:=by rfl)
  (hline:(apos.endLine == cpos.line)=true:=by rfl) (hs:starEach (e::es) X.env=(false,eval e X.env)::starEach es X.env:=by rfl) (hplain:(backTo cpos (starEach es X.env)).any (·.1)=false:=by rfl) :
  PE X (.Call (.Attribute o name apos) (e::es) [] cpos) (tBM X.K T r to t):=by
 intro pins s σ H Q I h
 refine wpAny_Call_method_late hbase hfew hline rfl (thn (ho pins s σ H _ I h) fun v s1 ⟨x,H1,I1,r1,ty,q1⟩=>?_)
 obtain ⟨h1,h2⟩:=tyV_is I1 r1 ty
 refine ⟨T,id,pa,slot,hty,h1,h2,?_⟩
 have hA:=ha cpos pins s1 σ H1 _ I1 q1
 rw [hs] at hA ⊢
 refine Calls.callWith_builtin (by show (false || (backTo cpos (starEach es X.env)).any (·.1))=false;rw [hplain]<;>rfl) (Calls.evalArgs_plain ?_)
 exact thn hA fun us s2 ⟨vs,H2,I2,r2,q2⟩=>hm pins s2 σ H2 x vs v us Q I2 r1 r2 q2
end
end L2
namespace L2
open PySem PySem.Spec PyProof.Rows
def MtM (X:Cx) (id:String) (r:V→List V→Hp→VK→Prop):Prop :=
 ∀ (pins:List (Addr × Obj)) (s:Shared) (σ:St) (H:Hp) (x:V) (xs:List V) (v:Value) (us:List Value) (Q:VK),Inv X pins σ H s→RelV x v→Vals xs us→r x xs H Q →
  wpAny (model X.prog X.w) X.A (call (.builtin id) (v::us)) (EP X pins σ Q) X.xe s
theorem Vals.one:∀ {x:V}{us:List Value},Vals [x] us→∃ u,us=[u]∧RelV x u
 | _,_,.cons r .nil=>⟨_,rfl,r⟩
theorem Vals.two:∀ {x y:V}{us:List Value},Vals [x,y] us→∃ u v,us=[u,v]∧RelV x u∧RelV y v
 | _,_,_,.cons r (.cons q .nil)=>⟨_,_,rfl,r,q⟩
theorem Vals.zero:∀ {us:List Value},Vals [] us→us=[]
 | _,.nil=>rfl
theorem Vals.eraseIdx:∀ {xs:List V}{us:List Value} (i:Nat),Vals xs us→Vals (xs.eraseIdx i) (us.eraseIdx i)
 | _,_,_,.nil=>.nil
 | _,_,0,.cons _ t=>t
 | _,_,i+1,.cons r t=>.cons r (Vals.eraseIdx i t)
theorem Vals.reverse {xs:List V}{us:List Value} (h:Vals xs us):Vals xs.reverse us.reverse:=by
 induction h with
 | nil=>exact .nil
 | cons r t ih=>rw [List.reverse_cons,List.reverse_cons];exact Vals.append ih (.cons r .nil)
theorem Vals.rep {xs:List V}{us:List Value} (h:Vals xs us):∀ k:Nat,Vals (List.replicate k xs).flatten (List.replicate k us).flatten
 | 0=>.nil
 | k+1=>by
  rw [List.replicate_succ,List.replicate_succ,List.flatten_cons,List.flatten_cons]
  exact Vals.append h (Vals.rep h k)
theorem len_erase {α:Type}:∀ (l:List α) (i:Nat),(l.eraseIdx i).length≤l.length
 | [],_=>Nat.le_refl _
 | _::_,0=>Nat.le_succ _
 | _::r,i+1=>Nat.succ_le_succ (len_erase r i)
theorem foldl_rep (its:List Value):∀ (k:Nat) (acc:List Value),
  List.foldl (fun x1 x2=>x1++x2) acc.toArray (List.replicate k its.toArray)=(acc++(List.replicate k its).flatten).toArray
 | 0,acc=>by simp
 | k+1,acc=>by
  have e:acc.toArray++its.toArray=(acc++its).toArray:=by simp
  have e2:(acc++its)++(List.replicate k its).flatten=acc++(List.replicate (k+1) its).flatten:=by
   rw [List.replicate_succ,List.flatten_cons,List.append_assoc]
  rw [← e2,← foldl_rep its k (acc++its),← e,List.replicate_succ,List.foldl_cons]
section
variable {X:Cx}{pins:List (Addr × Obj)}{σ:St}{H:Hp}{s:Shared}{l b:Addr}{xs ys zs:List V}
theorem Inv.lset {its its':List Value}{n:Nat}{f:Array Value→Array Value}{t':Nat} (I:Inv X pins σ H s) (hH:H l=some (.lst xs))
  (e:s.heap.get? l=some { cls:=.type "list",data:=.seq its.toArray n }) (hf:f its.toArray=its'.toArray) (hv:Vals ys its') (hz:ys.length≤sizeLine) :
  Inv X pins σ (upd H l (.lst ys)) { s with heap:=s.heap.update l (Obj.mapSeq f),toks:=t' }:=by
 have q:=PySem.IsL.update e f
 rw [hf] at q
 refine I.write (x:=l) (e:=l) (by rw [hH];exact trivial) (.inl rfl) (fun b' u hb hu=>(Heap.get?_update_other s.heap (Obj.mapSeq f) (Ne.symm hb)).trans hu) ⟨_,q⟩ ?_
 exact ⟨hz,its',_,hv,q⟩
theorem Inv.lnew {its:List Value}{t':Nat} (I:Inv X pins σ H s) (hv:Vals ys its) (hz:ys.length≤sizeLine) :
  Inv X pins σ (upd H s.heap.objs.size (.lst ys)) { s with heap:=s.heap.push { cls:=.type "list",data:=.seq its.toArray },toks:=t' } :=
 I.laid (fun _ _ q=>Heap.get?_push_of_some _ q) (Nat.le_refl _) ⟨hz,its,0,hv,Heap.get?_push_size _ rfl⟩
theorem Inv.fresh (I:Inv X pins σ H s):H s.heap.objs.size=none:=I.hok.fresh (Nat.le_refl _)
theorem Inv.lstM (I:Inv X pins σ H s) (hH:H l=some (.lst xs)):xs.length≤sizeLine∧∃ (its:List Value) (n:Nat),Vals xs its∧xs.length=its.length∧s.heap.get? l=some { cls:=.type "list",data:=.seq its.toArray n }:=by
 obtain ⟨z,its,n,r,e⟩:=I.hok l _ hH
 exact ⟨z,its,n,r,r.length,e⟩
theorem notLongL {n:Nat} (h:n≤sizeLine):Builtin.List.listTooLong n=false:=by
 unfold Builtin.List.listTooLong
 exact decide_eq_false (by omega)
end
section
variable {X:Cx}
def rAppend:V→List V→Hp→VK→Prop:=fun x vs H Q=>∃ l xs y,x=.ref l∧vs=[y]∧H l=some (.lst xs)∧xs.length<sizeLine∧Q .non (upd H l (.lst (xs++[y])))
theorem mt_append:MtM X "list.append" rAppend:=by
 intro pins s σ H x vs v us Q I rx rv h
 obtain ⟨l,xs,y,rfl,rfl,hH,hz,q⟩:=h
 cases rx
 obtain ⟨u,rfl,ru⟩:=rv.one
 obtain ⟨z,its,n,r,hl,e⟩:=I.lstM hH
 refine call_meets F.slot_list_append ⟨_,e,rfl⟩ F.entry_list_append (F.args_list_append_2 _ _) (PySem.list_append l its.toArray n u (by rw [List.size_toArray];omega)) ⟨e,?_⟩
 refine ⟨.non,_,I.lset (its':=its++[u]) hH e (by simp) (r.append (.cons ru .nil)) ?_,rfl,q⟩
 rw [List.length_append,List.length_singleton]
 omega
def rExtend:V→List V→Hp→VK→Prop:=fun x vs H Q=>∃ l b xs zs,x=.ref l∧vs=[.ref b]∧H l=some (.lst xs)∧H b=some (.lst zs)∧xs.length+zs.length≤sizeLine∧Q .non (upd H l (.lst (xs++zs)))
theorem mt_extend:MtM X "list.extend" rExtend:=by
 intro pins s σ H x vs v us Q I rx rv h
 obtain ⟨l,b,xs,zs,rfl,rfl,hH,hB,hz,q⟩:=h
 cases rx
 obtain ⟨u,rfl,ru⟩:=rv.one
 cases ru
 obtain ⟨z,its,n,r,hl,e⟩:=I.lstM hH
 obtain ⟨z2,its2,n2,r2,hl2,e2⟩:=I.lstM hB
 have hsz:its.toArray.size+its2.toArray.size≤sizeLine:=by rw [List.size_toArray,List.size_toArray];omega
 have hlong:¬ (!its.toArray.isEmpty && Builtin.List.listTooLong (its.toArray.size+its2.toArray.size))=true:=by
  rw [notLongL hsz,Bool.and_false]
  exact Bool.false_ne_true
 refine call_meets F.slot_list_extend ⟨_,e,rfl⟩ F.entry_list_extend (F.args_list_extend_2 _ _)
  (AutoSeq1.list_extend_list_list_0 l its.toArray n b its2.toArray n2 hlong (by rw [List.size_toArray];omega) (by omega)) ⟨e,e2,?_⟩
 refine ⟨.non,_,I.lset (its':=its++its2) hH e (by simp) (r.append r2) ?_,rfl,q⟩
 rw [List.length_append]
 omega
def rPopAt:V→List V→Hp→VK→Prop:=fun x vs H Q=>∃ l xs i k y,x=.ref l∧vs=[.int i]∧H l=some (.lst xs)∧-(2 ^ 63)≤i∧i<2 ^ 63∧seqIndex? i xs.length=some k∧xs[k]?=some y∧Q y (upd H l (.lst (xs.eraseIdx k)))
theorem mt_popAt:MtM X "list.pop" rPopAt:=by
 intro pins s σ H x vs v us Q I rx rv h
 obtain ⟨l,xs,i,k,y,rfl,rfl,hH,h1,h2,hk,hy,q⟩:=h
 cases rx
 obtain ⟨u,rfl,ru⟩:=rv.one
 obtain ⟨t,rfl⟩:=ru
 obtain ⟨z,its,n,r,hl,e⟩:=I.lstM hH
 obtain ⟨w,hw,rw'⟩:=r.get hy
 refine call_meets F.slot_list_pop ⟨_,e,rfl⟩ F.entry_list_pop (F.args_list_pop_2 _ _)
  (MeetsSeq.list_pop_at l its.toArray n i t k w (fitsIndex_both h1 h2) (by rw [List.size_toArray,← hl];exact hk) (by rw [← Array.getElem?_toList];exact hw) (by rw [List.size_toArray];omega)) ⟨e,?_⟩
 refine ⟨y,_,I.lset (its':=its.eraseIdx k) hH e ?_ (r.eraseIdx k) ?_,rw',q⟩
 ·show its.toArray.eraseIdxIfInBounds k=(its.eraseIdx k).toArray
  rw [List.eraseIdxIfInBounds_toArray]
 ·have:=len_erase xs k
  omega
def rReverse:V→List V→Hp→VK→Prop:=fun x vs H Q=>∃ l xs,x=.ref l∧vs=[]∧H l=some (.lst xs)∧Q .non (upd H l (.lst xs.reverse))
theorem mt_reverse:MtM X "list.reverse" rReverse:=by
 intro pins s σ H x vs v us Q I rx rv h
 obtain ⟨l,xs,rfl,rfl,hH,q⟩:=h
 cases rx
 have hus:=rv.zero
 subst hus
 obtain ⟨z,its,n,r,hl,e⟩:=I.lstM hH
 refine call_meets F.slot_list_reverse ⟨_,e,rfl⟩ F.entry_list_reverse (F.args_list_reverse_1 _) (AutoSeq1.list_reverse_list_0 l its.toArray n (by rw [List.size_toArray];omega)) ⟨e,?_⟩
 refine ⟨.non,_,I.lset (its':=its.reverse) hH e (by simp) r.reverse ?_,rfl,q⟩
 rw [List.length_reverse]
 omega
def rCat:R2:=fun x y H Q=>∃ l b xs zs,x=.ref l∧y=.ref b∧H l=some (.lst xs)∧H b=some (.lst zs)∧xs.length+zs.length≤sizeLine∧∀ p,H p=none→Q (.ref p) (upd H p (.lst (xs++zs)))
theorem op_cat:OpR X (binaryOp .Add) rCat:=by
 intro pins s σ H x y v u Q I rx ry h
 obtain ⟨l,b,xs,zs,rfl,rfl,hH,hB,hz,q⟩:=h
 cases rx
 cases ry
 obtain ⟨z,its,n,r,hl,e⟩:=I.lstM hH
 obtain ⟨z2,its2,n2,r2,hl2,e2⟩:=I.lstM hB
 refine PySem.P.add_list e e2 ?_ (by rw [List.size_toArray,List.size_toArray];omega)
 have ea:its.toArray++its2.toArray=(its++its2).toArray:=by simp
 rw [ea]
 exact ⟨.ref _,_,I.lnew (t':=s.toks) (r.append r2) (by rw [List.length_append];omega),rfl,q _ I.fresh⟩
def rRep:R2:=fun x y H Q=>∃ l k xs,x=.ref l∧y=.int k∧H l=some (.lst xs)∧-(2 ^ 63)≤k∧k<2 ^ 63∧xs.length * k.toNat≤sizeLine ∧
 ∀ p,H p=none→Q (.ref p) (upd H p (.lst (List.replicate k.toNat xs).flatten))
theorem len_rep {α:Type} (xs:List α) (k:Nat):(List.replicate k xs).flatten.length=k * xs.length:=by
 induction k with
 | zero=>simp
 | succ k ih=>rw [List.replicate_succ,List.flatten_cons,List.length_append,ih,Nat.succ_mul,Nat.add_comm]
theorem op_rep:OpR X (binaryOp .Mult) rRep:=by
 intro pins s σ H x y v u Q I rx ry h
 obtain ⟨l,k,xs,rfl,rfl,hH,h1,h2,hz,q⟩:=h
 cases rx
 obtain ⟨t,rfl⟩:=ry
 obtain ⟨z,its,n,r,hl,e⟩:=I.lstM hH
 have hlen:its.toArray.size * k.toNat≤sizeLine:=by rw [List.size_toArray,← hl];exact hz
 have hcap:¬ its.toArray.size * k.toNat > (2 ^ 63 - 1) / 8:=by
  have:(sizeLine:Nat)≤(2 ^ 63 - 1) / 8:=by decide
  omega
 have hfit:¬ (!Builtin.List.listFitsIndex k)=true:=by
  rw [fitsIndex_both h1 h2]
  exact Bool.false_ne_true
 have hlong:¬ Builtin.List.listTooLong (its.toArray.size * k.toNat)=true:=by
  rw [notLongL hlen]
  exact Bool.false_ne_true
 have hnew:List.foldl (fun x1 x2=>x1++x2) #[] (List.replicate (if its.toArray.isEmpty=true then 0 else k.toNat) its.toArray)=(List.replicate k.toNat its).flatten.toArray:=by
  have f0:∀ m:Nat,List.foldl (fun x1 x2=>x1++x2) #[] (List.replicate m its.toArray)=(List.replicate m its).flatten.toArray:=fun m=>by
   have:=foldl_rep its m []
   rw [List.nil_append] at this
   exact this
  rw [f0]
  cases its with
  | nil=>simp
  | cons a r'=>rw [if_neg (by simp)]
 refine wpAny_binaryOp_repeat_ref (T:="list") (U:="int") (by decide) ⟨_,e,rfl⟩ (fun s'=>typeIs_int s' k t) noFill_list_mul F.fills_int_mul F.slot_int_rmul repeat_list F.slot_int_index.lookup
  (call_meets F.slot_int_rmul (typeIs_int s k t) F.entry_int_rmul (F.args_int_rmul_2 _ _) (int___rmul___int_list k t l its.toArray n)
   ⟨e,rfl,⟨_,e,rfl⟩,call_meets F.slot_list_mul ⟨_,e,rfl⟩ F.entry_list_mul (F.args_list_mul_2 _ _) (AutoListH.list___mul___list_int_3 l its.toArray n k t hfit hcap hlong) ⟨e,?_⟩⟩)
 rw [hnew]
 exact ⟨.ref _,_,I.lnew (t':=s.toks) (r.rep k.toNat) (by rw [len_rep,Nat.mul_comm];exact hz),rfl,q _ I.fresh⟩
end
end L2
namespace L2
open PySem PySem.Spec PyProof.Rows
theorem Vals.ints:∀ {ns:List Int}{us:List Value},Vals (ns.map V.int) us→IntsAre us ns
 | [],us,h=>by
  rw [List.map_nil] at h
  cases h
  exact IntsAre.nil
 | n::ns,us,h=>by
  rw [List.map_cons] at h
  cases h with
  | cons r t =>
   obtain ⟨k,rfl⟩:=r
   exact IntsAre.cons n k (Vals.ints t)
theorem vals_of_ints:∀ {us:List Value}{ns:List Int},IntsAre us ns→Vals (ns.map V.int) us
 | _,_,.nil=>by rw [List.map_nil];exact Paired.nil
 | _,_,.cons n t h=>by rw [List.map_cons];exact Paired.cons (show RelV (V.int n) (Value.int n t) from ⟨t,rfl⟩) (vals_of_ints h)
theorem Vals.bls:∀ {bs:List Bool}{us:List Value},Vals (bs.map V.bl) us→us=bs.map Value.bool
 | [],us,h=>by
  rw [List.map_nil] at h
  cases h
  rfl
 | b::bs,us,h=>by
  rw [List.map_cons] at h
  cases h with
  | cons r t =>
   cases r
   rw [Vals.bls t,List.map_cons]
theorem Vals.ref1 {a:Addr}{us:List Value} (r:Vals [V.ref a] us):us=[Value.ref a]:=by
 cases r with
 | cons r t =>
  cases t
  cases r
  rfl
section
variable {prog:Program}{w:World}{A:Around}{E:Value→Shared→Prop}{s:Shared}{l:Addr}{its:List Value}{ns:List Int}{Q:Value→Shared→Prop}
theorem sum_raw (hh:A.handled=none) (hl:s.heap.IsList l its.toArray) (hi:IntsAre its ns)
  (h:∀ h' tk t',(∀ b o,s.heap.get? b=some o→h'.get? b=some o)→Q (.int ns.sum t') { s with heap:=h',toks:=tk }):wpAny (model prog w) A (call (.builtin "sum") [.ref l]) Q E s:=by
 obtain ⟨xs,e⟩:=hi.allInts.items
 have hn:numsOf (intItems xs).toList=ns:=by rw [← e];exact hi.numsOf
 rw [nums_intItems] at hn
 rw [e] at hl
 refine PySem.sum_intListG hh hl fun h' tk t' hk=>?_
 have:=h h' tk t' hk
 rw [preSum_eq,List.take_of_length_le (by simp),hn];exact this
end
section
variable {X:Cx}
def rSum (K:PySem.W.Frag):List V→Hp→VK→Prop:=fun vs H Q=>∃ (a:Addr) (ns:List Int),vs=[V.ref a]∧SqL K H a (ns.map V.int)∧Q (.int ns.sum) H
theorem cr_sum (hc:X.calm=true):CallR X (.builtin "sum") (rSum X.K):=by
 intro pins s σ H vs us Q I r h
 obtain ⟨a,ns,rfl,hs,q⟩:=h
 obtain ⟨its,rv,hl,_⟩:=I.list hs
 rw [Vals.ref1 r]
 exact sum_raw (I.ok.hd hc) hl.isList rv.ints fun h' tk t' hk=>⟨.int _,H,I.kept hk,⟨_,rfl⟩,q⟩
end
theorem iter_any {prog:Program}{w:World}{A:Around}{E:Value→Shared→Prop}{s:Shared}{l:Addr}{items:Array Value}{Q:Value→Shared→Prop} (hl:s.heap.IsList l items)
  (h:∀ s₂:Shared,s₂={ s with heap:=s.heap.push { cls:=.type "list_iterator",data:=.fields #[.ref l,.int 0 0] } } →
   (s₂.heap.IsListIter s.heap.objs.size l 0∧s₂.heap.IsList l items)→l≠s.heap.objs.size→Q (.ref s.heap.objs.size) s₂):wpAny (model prog w) A (pyIter (.ref l)) Q E s:=by
 have hlt:l<s.heap.objs.size:=by obtain ⟨_,e,_⟩:=hl;exact Heap.lt_size e
 exact wpAny_pyIter_list hl (h _ rfl ⟨⟨_,Heap.get?_push_size _ rfl,rfl,rfl⟩,hl.push _⟩ (Nat.ne_of_lt hlt))
theorem truth_bools {prog:Program}{w:World}{A:Around}{bs:List Bool}{its:List Value} (e:its=bs.map Value.bool) :
  TruthOf prog w A (fun i v=>its.toArray[i]?=some v) (fun i=>bs.getD i false):=fun i v s Q E hv hq=>by
 have hv':its[i]?=some v:=by simpa using hv
 rw [e,List.getElem?_map] at hv'
 obtain ⟨b,hb,rfl⟩:=Option.map_eq_some_iff.mp hv'
 have hg:bs.getD i false=b:=by rw [List.getD_eq_getElem?_getD,hb]<;>rfl
 have hq':Q (bs.getD i false) s:=hq
 rw [hg] at hq'
 exact wpAny_truthy_bool hq'
theorem all_range:∀ bs:List Bool,(List.range bs.length).all (fun i=>bs.getD i false)=bs.all id
 | []=>rfl
 | b::bs=>by
  rw [List.length_cons,List.range_succ_eq_map,List.all_cons,List.all_map,List.all_cons,← all_range bs]
  all_goals rfl
section
variable {X:Cx}
def rAll (K:PySem.W.Frag):List V→Hp→VK→Prop:=fun vs H Q=>∃ (a:Addr) (bs:List Bool),vs=[V.ref a]∧SqL K H a (bs.map V.bl)∧Q (.bl (bs.all id)) H
theorem cr_all (hc:X.calm=true):CallR X (.builtin "all") (rAll X.K):=by
 intro pins s σ H vs us Q I r h
 obtain ⟨a,bs,rfl,hs,q⟩:=h
 obtain ⟨its,rv,hl,_⟩:=I.list hs
 rw [Vals.ref1 r]
 have hb:=rv.bls
 refine call_all_walk (iter_any hl.isList fun s₂ e2 st hne=>?_)
 subst e2
 refine ⟨_,_,_,_,_,_,_,rfl,Walks.list (A:=X.A.in1) (I.ok.hd hc) _ a hne its.toArray,st,truth_bools hb,fun h' tk hk=>?_⟩
 refine ⟨.bl _,H,I.kept fun b o eo=>hk b o (fun hmem=>?_) (Heap.get?_push_of_some _ eo),?_,q⟩
 ·rcases List.mem_cons.mp hmem with e1 | hmem
  ·exact absurd (e1 ▸ Heap.lt_size eo) (Nat.lt_irrefl _)
  ·cases hmem
 ·show Value.bool _=Value.bool _
  rw [← all_range,hb,List.size_toArray,List.length_map]
end
end L2
namespace L2
open PySem PySem.Spec PyProof.Rows
abbrev CellAt (h:Heap) (c:Addr) (v:Option Value):Prop:=h.IsCell c v
def relS (scope sc:Scope):Scope :=
 { scope with names:=scope.names.map fun (n,k)=>if (k == .free && sc.kind == .function && sc.names.lookup n == some .cell) then (n,.cell) else (n,k) }
def cloFrom (cells:List (Str × Addr)):List (Str × NameKind)→List (Str × Addr)→List (Str × Addr)
 | [],acc=>acc
 | (n,k)::r,acc=>if k == .free then cloFrom cells r ((n,(cells.lookup n).getD 0)::acc) else cloFrom cells r acc
theorem closure_loop (env:Env) (f:Str × NameKind→List (Str × Addr)→Sem (ForInStep (List (Str × Addr))))
  (hf:∀ n k c,f (n,k) c=if k == .free then (do let a ← cellOf env n;pure (.yield ((n,a)::c))) else pure (.yield c)) :
  ∀ (names:List (Str × NameKind)) (acc:List (Str × Addr)),(∀ y∈names,y.2=.free→∃ c,env.cells.lookup y.1=some c)→forIn names acc f=pure (cloFrom env.cells names acc)
 | [],acc,_=>by rw [List.forIn_nil];rfl
 | (n,k)::r,acc,h=>by
  rw [List.forIn_cons,hf]
  have ih:=fun acc=>closure_loop env f hf r acc fun y hy=>h y (List.mem_cons_of_mem _ hy)
  unfold cloFrom
  by_cases hk:(k == NameKind.free)=true
  ·rw [if_pos hk,if_pos hk]
   obtain ⟨c,hc⟩:=h (n,k) List.mem_cons_self (by simpa using hk)
   have e:cellOf env n=pure c:=by unfold cellOf;rw [hc]
   rw [e]
   have e2:(env.cells.lookup n).getD 0=c:=by rw [hc];rfl
   rw [e2]
   exact ih _
  ·rw [if_neg hk,if_neg hk]
   exact ih _
theorem closure_ok {scope:Scope}{env:Env} (h:∀ y∈scope.names,y.2=.free→∃ c,env.cells.lookup y.1=some c):closureFor scope env=pure (cloFrom env.cells scope.names []):=by
 simp only [closureFor]
 rw [closure_loop env _ (fun n k c=>rfl) scope.names [] h]
 rfl
theorem mem_lookup {α:Type}:∀ {l:List (Str × α)}{n:Str}{c:α},(n,c)∈l→∃ c',l.lookup n=some c'
 | (k,v)::r,n,c,h=>by
  rw [List.lookup_cons]
  cases hb:n == k with
  | true=>exact ⟨_,rfl⟩
  | false =>
   rcases List.mem_cons.mp h with e | h
   ·cases e;simp at hb
   ·exact mem_lookup h
theorem cloFrom_mem {cells:List (Str × Addr)}:∀ {names:List (Str × NameKind)}{acc:List (Str × Addr)}{n:Str}{c:Addr},(n,c)∈cloFrom cells names acc→(n,c)∈acc∨((n,.free)∈names∧c=(cells.lookup n).getD 0)
 | [],_,_,_,h=>.inl h
 | (m,k)::r,acc,n,c,h=>by
  unfold cloFrom at h
  split at h
  ·rename_i hk
   have hk:k=.free:=by simpa using hk
   rcases cloFrom_mem h with h | ⟨h1,h2⟩
   ·rcases List.mem_cons.mp h with e | h
    ·cases e;exact .inr ⟨hk ▸ List.mem_cons_self,rfl⟩
    ·exact .inl h
   ·exact .inr ⟨List.mem_cons_of_mem _ h1,h2⟩
  ·rcases cloFrom_mem h with h | ⟨h1,h2⟩
   ·exact .inl h
   ·exact .inr ⟨List.mem_cons_of_mem _ h1,h2⟩
theorem cloFrom_acc {cells:List (Str × Addr)}:∀ {names:List (Str × NameKind)}{acc:List (Str × Addr)}{p:Str × Addr},p∈acc→p∈cloFrom cells names acc
 | [],_,_,h=>h
 | (m,k)::r,acc,p,h=>by
  unfold cloFrom
  split
  ·exact cloFrom_acc (List.mem_cons_of_mem _ h)
  ·exact cloFrom_acc h
theorem cloFrom_has {cells:List (Str × Addr)}:∀ {names:List (Str × NameKind)}{acc:List (Str × Addr)}{n:Str},(n,.free)∈names→(n,(cells.lookup n).getD 0)∈cloFrom cells names acc
 | (m,k)::r,acc,n,h=>by
  unfold cloFrom
  rcases List.mem_cons.mp h with e | h
  ·cases e
   exact cloFrom_acc List.mem_cons_self
  ·split
   ·exact cloFrom_has h
   ·exact cloFrom_has h
theorem cells_mem:∀ {names:List (Str × NameKind)}{h:Heap}{acc:List (Str × Addr)}{x:Str}{c:Addr},(x,c)∈cellsFrom h.objs.size names acc →
  (x,c)∈acc∨((x,.cell)∈names∧h.objs.size≤c∧CellAt (pushCells h names) c none)
 | [],_,_,_,_,h=>.inl h
 | (n,k)::r,h,acc,x,c,hm=>by
  unfold cellsFrom at hm
  unfold pushCells
  split at hm
  ·rename_i hk
   rw [if_pos hk]
   have hk:k=.cell:=by simpa using hk
   rw [← Heap.size_push h { cls:=.type "cell",data:=.cell none }] at hm
   rcases cells_mem hm with hm | ⟨h1,h2,h3⟩
   ·rcases List.mem_cons.mp hm with e | hm
    ·cases e
     exact .inr ⟨hk ▸ List.mem_cons_self,Nat.le_refl _,_,pushCells_keeps r _ _ _ (Heap.get?_push_size _ rfl),rfl⟩
    ·exact .inl hm
   ·rw [Heap.size_push] at h2
    exact .inr ⟨List.mem_cons_of_mem _ h1,Nat.le_of_succ_le h2,h3⟩
  ·rename_i hk
   rw [if_neg hk]
   rcases cells_mem hm with hm | ⟨h1,h2,h3⟩
   ·exact .inl hm
   ·exact .inr ⟨List.mem_cons_of_mem _ h1,h2,h3⟩
theorem cells_acc:∀ {names:List (Str × NameKind)}{n:Nat}{acc:List (Str × Addr)}{p:Str × Addr},p∈acc→p∈cellsFrom n names acc
 | [],_,_,_,h=>h
 | (m,k)::r,n,acc,p,h=>by
  unfold cellsFrom
  split
  ·exact cells_acc (List.mem_cons_of_mem _ h)
  ·exact cells_acc h
theorem cells_has:∀ {names:List (Str × NameKind)}{n:Nat}{acc:List (Str × Addr)}{x:Str},(x,.cell)∈names→∃ c,(x,c)∈cellsFrom n names acc
 | (m,k)::r,n,acc,x,h=>by
  unfold cellsFrom
  rcases List.mem_cons.mp h with e | h
  ·cases e
   exact ⟨n,cells_acc List.mem_cons_self⟩
  ·split
   ·exact cells_has h
   ·exact cells_has h
theorem cells_inj:∀ {names:List (Str × NameKind)}{h:Heap}{acc:List (Str × Addr)}{x y:Str}{c:Addr},(∀ p∈acc,p.2<h.objs.size)→(∀ x y c,(x,c)∈acc→(y,c)∈acc→x=y) →
  (x,c)∈cellsFrom h.objs.size names acc→(y,c)∈cellsFrom h.objs.size names acc→x=y
 | [],_,_,_,_,_,_,hi,h1,h2=>hi _ _ _ h1 h2
 | (n,k)::r,h,acc,x,y,c,hl,hi,h1,h2=>by
  unfold cellsFrom at h1 h2
  split at h1
  ·rename_i hk
   rw [if_pos hk] at h2
   rw [← Heap.size_push h { cls:=.type "cell",data:=.cell none }] at h1 h2
   refine cells_inj (h:=h.push _) (fun p hp=>?_) (fun x y c a b=>?_) h1 h2
   ·rw [Heap.size_push]
    rcases List.mem_cons.mp hp with rfl | hp
    ·exact Nat.lt_succ_self _
    ·exact Nat.lt_succ_of_lt (hl p hp)
   ·rcases List.mem_cons.mp a with e | a<;>rcases List.mem_cons.mp b with e' | b
    ·cases e;cases e';rfl
    ·cases e;exact absurd (hl _ b) (Nat.lt_irrefl _)
    ·cases e';exact absurd (hl _ a) (Nat.lt_irrefl _)
    ·exact hi _ _ _ a b
  ·rename_i hk
   rw [if_neg hk] at h2
   exact cells_inj hl hi h1 h2
theorem newEnv_comp {M:Model}{A:Around}{E:Value→Shared→Prop}{s:Shared}{scope:Scope}{globals:Addr}{closure:List (Str × Addr)}{qual:Str}{func:Option Addr}{code:Value}{around:Env}{builtins:Addr}{Q:Env→Shared→Prop}
  (h:Q (newEnv scope s.heap.objs.size globals (cellsFrom (s.heap.objs.size+1) scope.names closure) qual func code (some around) builtins)
   { s with heap:=pushCells (s.heap.push { cls:=.type "dict",data:=.dict #[] }) scope.names }) :
  wpAny M A (newFunctionEnv scope globals closure [] qual func code (some around) builtins) Q E s:=by
 simp only [newFunctionEnv,Option.isSome_some,if_true]
 refine wpAny_bind (wpAny_alloc ?_)
 refine wpAny_bind (wpAny_layCells _ (fun n k c=>rfl) scope.names closure _ _ ?_)
 rw [show ({ s with heap:=s.heap.push { cls:=.type "dict",data:=.dict #[] } }:Shared).heap.objs.size=s.heap.objs.size+1 from Heap.size_push ..]
 rw [List.forIn_nil]
 exact wpAny_bind (wpAny_pure (wpAny_pure h))
theorem lookup_relS {sc:Scope}:∀ {names:List (Str × NameKind)}{x:Str}{k:NameKind},
  (names.map fun (n,k)=>if (k == NameKind.free && sc.kind == .function && sc.names.lookup n == some .cell) then (n,NameKind.cell) else (n,k)).lookup x=some k →
  ∃ k',names.lookup x=some k'∧(k=k'∨(k'=.free∧k=.cell))
 | [],_,_,h=>by simp at h
 | (n,k₀)::r,x,k,h=>by
  have ih:=@lookup_relS sc r x k
  have h':List.lookup x ((if (k₀ == NameKind.free && sc.kind == .function && sc.names.lookup n == some .cell)=true then (n,NameKind.cell) else (n,k₀))::(r.map _))=some k:=h
  cases hx:x == n with
  | true =>
   simp only [List.lookup_cons,hx]
   by_cases hc:(k₀ == NameKind.free && sc.kind == .function && sc.names.lookup n == some .cell)=true
   ·rw [if_pos hc] at h'
    simp only [List.lookup_cons,hx] at h'
    cases h'
    simp only [Bool.and_eq_true,beq_iff_eq] at hc
    exact ⟨k₀,rfl,.inr ⟨hc.1.1,rfl⟩⟩
   ·rw [if_neg hc] at h'
    simp only [List.lookup_cons,hx] at h'
    cases h'
    exact ⟨_,rfl,.inl rfl⟩
  | false =>
   simp only [List.lookup_cons,hx]
   by_cases hc:(k₀ == NameKind.free && sc.kind == .function && sc.names.lookup n == some .cell)=true
   ·rw [if_pos hc] at h'
    simp only [List.lookup_cons,hx] at h'
    exact ih h'
   ·rw [if_neg hc] at h'
    simp only [List.lookup_cons,hx] at h'
    exact ih h'
structure BlkOk (N:List Str) (sc scope:Scope) (own:List (Str × Nat)):Prop where
 kind:scope.kind=.function
 uniq:∀ y∈scope.names,scope.names.lookup y.1=some y.2
 ix:∀ p∈own,N[p.2]?=some p.1
 free:∀ y∈scope.names,y.2=.free→sc.names.lookup y.1=some .cell∨sc.names.lookup y.1=some .free
 own:∀ y∈scope.names,y.2=.local∨y.2=.cell→y.1∈own.map (·.1)∨y.1∉N
def wipe (σ:St):List Nat→St
 | []=>σ
 | v::vs=>(wipe σ vs).set v none
theorem wipe_length (σ:St):∀ vs:List Nat,(wipe σ vs).length=σ.length
 | []=>rfl
 | v::vs=>by unfold wipe;rw [List.length_set,wipe_length σ vs]
theorem wipe_some {σ:St}{i:Nat}{x:V}:∀ {vs:List Nat},(wipe σ vs)[i]?=some (some x)→σ[i]?=some (some x)∧i∉vs
 | [],h=>⟨h,by simp⟩
 | v::vs,h=>by
  unfold wipe at h
  by_cases hi:v=i
  ·subst hi
   by_cases hv:v<(wipe σ vs).length
   ·rw [List.getElem?_set_self hv] at h;cases h
   ·rw [List.getElem?_eq_none (by simpa using hv)] at h;cases h
  ·rw [List.getElem?_set_ne hi] at h
   obtain ⟨h1,h2⟩:=wipe_some h
   exact ⟨h1,by simp only [List.mem_cons,not_or];exact ⟨fun e=>hi e.symm,h2⟩⟩
abbrev Cx.blk (X:Cx) (s:Shared) (H:Hp) (scope:Scope) (cenv:Env) (fp:List Addr):Cx:={ X with s_0:=s,H_0:=H,env:=cenv,outer:=X.stack,ex:=fp,fn:=fun x=>scope.names.lookup x == some .cell,pn:=[],xe:=fun _ _=>False }
section
variable {X:Cx}{pins:List (Addr × Obj)}{σ:St}{H:Hp}{s:Shared}
theorem block_start {scope:Scope}{own:List (Str × Nat)}{fp:List Addr} (I:Inv X pins σ H s) (ok:BlkOk X.N X.env.scope scope own) (hN:X.N.Nodup) (hfp:∀ b∈fp,FpOk X pins H b∧b<s.heap.objs.size) :
  Inv (X.blk s H scope (compEnvC scope (cellsFrom (s.heap.objs.size+1) scope.names (cloFrom X.env.cells scope.names [])) s.heap.objs.size X.env) fp) [] (wipe σ (own.map (·.2))) H { s with heap:=pushCells (s.heap.push { cls:=.type "dict",data:=.dict #[] }) scope.names }:=by
 have hfree:∀ y∈scope.names,y.2=.free→∃ c,X.env.cells.lookup y.1=some c:=fun y hy e=>by
  rcases ok.free y hy e with k | k
  ·exact I.ok.has _ (.inl k)
  ·exact I.ok.has _ (.inr k)
 generalize hcenv:compEnvC scope (cellsFrom (s.heap.objs.size+1) scope.names (cloFrom X.env.cells scope.names [])) s.heap.objs.size X.env=cenv
 have kp:∀ b o,s.heap.get? b=some o→(pushCells (s.heap.push { cls:=.type "dict",data:=.dict #[] }) scope.names).get? b=some o:=fun b o e=>pushCells_keeps _ _ _ _ (Heap.get?_push_of_some _ e)
 have hL:cenv.locals=s.heap.objs.size:=by rw [← hcenv];rfl
 have hcl:cenv.cells=cellsFrom (s.heap.objs.size+1) scope.names (cloFrom X.env.cells scope.names []):=by rw [← hcenv];rfl
 have hsc:cenv.scope=relS scope X.env.scope:=by rw [← hcenv];rfl
 rw [← Heap.size_push s.heap { cls:=.type "dict",data:=.dict #[] }] at hcl
 have cm:∀ {y c},(y,c)∈cloFrom X.env.cells scope.names []→X.env.cells.lookup y=some c∧c<s.heap.objs.size:=fun {y c} hm=>by
  rcases cloFrom_mem hm with hm | ⟨h1,rfl⟩
  ·cases hm
  ·obtain ⟨c,hc⟩:=hfree _ h1 rfl
   rw [hc]
   obtain ⟨w,z⟩:=I.cell _ _ hc
   exact ⟨rfl,z.lt⟩
 have mem:∀ {y c},cenv.cells.lookup y=some c→(X.env.cells.lookup y=some c∧c<s.heap.objs.size)∨(s.heap.objs.size+1≤c∧CellAt (pushCells (s.heap.push { cls:=.type "dict",data:=.dict #[] }) scope.names) c none):=fun {y c} e=>by
  rw [hcl] at e
  rcases cells_mem (PySem.mem_of_lookup e) with hm | ⟨_,h2,h3⟩
  ·exact .inl (cm hm)
  ·rw [Heap.size_push] at h2;exact .inr ⟨h2,h3⟩
 have look:∀ {y},scope.names.lookup y=some .free→∃ c,cenv.cells.lookup y=some c∧X.env.cells.lookup y=some c:=fun {y} hl=>by
  have hy:(y,NameKind.free)∈scope.names:=PySem.mem_of_lookup hl
  obtain ⟨c',e'⟩:=mem_lookup (cells_acc (names:=scope.names) (n:=(s.heap.push { cls:=.type "dict",data:=.dict #[] }).objs.size) (cloFrom_has (cells:=X.env.cells) (acc:=[]) hy))
  rw [← hcl] at e'
  refine ⟨c',e',?_⟩
  rw [hcl] at e'
  rcases cells_mem (PySem.mem_of_lookup e') with hm | ⟨h1,_,_⟩
  ·exact (cm hm).1
  ·have:=ok.uniq _ h1
   rw [hl] at this;cases this
 have okB:(X.blk s H scope cenv fp).Ok:=by
  refine ⟨I.ok.mod,by show cenv.scope.kind=_;rw [hsc];exact ok.kind,by show cenv.globals=_;rw [← hcenv];exact I.ok.glob,by show cenv.builtins=_;rw [← hcenv];exact I.ok.blt,by show s.heap.objs.size≤cenv.locals;rw [hL];exact Nat.le_refl _,
   fun y z c e1 e2=>?_,fun y hy=>?_,fun y c z e=>?_,I.ok.hd,I.ok.frames,.inl rfl,fun b hb=>⟨?_,fun y c e z=>?_⟩,I.bs,Nat.le_trans I.ok.bsz I.sz,fun b o e hb=>?_,fun b hb z=>?_,I.stack,I.stkFree⟩
  ·have e1:cenv.cells.lookup y=some c:=e1
   have e2:cenv.cells.lookup z=some c:=e2
   rw [hcl] at e1 e2
   refine cells_inj (fun p hp=>?_) (fun y z c a b=>I.ok.inj y z c (cm a).1 (cm b).1) (PySem.mem_of_lookup e1) (PySem.mem_of_lookup e2)
   rw [Heap.size_push]
   exact Nat.lt_succ_of_lt (cm (y:=p.1) (c:=p.2) hp).2
  ·show ∃ c,cenv.cells.lookup y=some c
   have key:∀ k,cenv.kindOf y=some k→(k=.cell∨k=.free)→∃ c,cenv.cells.lookup y=some c:=fun k hk hk'=>by
    unfold Env.kindOf at hk
    rw [hsc] at hk
    obtain ⟨k',e,r⟩:=lookup_relS hk
    have:k'=.cell∨k'=.free:=by
     rcases r with rfl | ⟨rfl,_⟩
     ·exact hk'
     ·exact .inr rfl
    rcases this with rfl | rfl
    ·obtain ⟨c,hm⟩:=cells_has (n:=(s.heap.push { cls:=.type "dict",data:=.dict #[] }).objs.size) (acc:=cloFrom X.env.cells scope.names []) (PySem.mem_of_lookup e)
     obtain ⟨c',e'⟩:=mem_lookup hm
     exact ⟨c',by rw [hcl];exact e'⟩
    ·obtain ⟨c,h1,_⟩:=look e
     exact ⟨c,h1⟩
   rcases hy with hy | hy
   ·exact key _ hy (.inl rfl)
   ·exact key _ hy (.inr rfl)
  ·have z:(scope.names.lookup y == some NameKind.cell)=true:=z
   have z:scope.names.lookup y=some .cell:=by simpa using z
   have e:cenv.cells.lookup y=some c:=e
   rw [hcl] at e
   rcases cells_mem (PySem.mem_of_lookup e) with hm | ⟨_,h2,_⟩
   ·rcases cloFrom_mem hm with hm | ⟨h1,_⟩
    ·cases hm
    ·have q:=ok.uniq _ h1
     rw [z] at q;cases q
   ·rw [Heap.size_push] at h2
    exact Nat.le_of_succ_le h2
  ·show b≠cenv.locals
   rw [hL];exact Nat.ne_of_lt (hfp b hb).2
  ·have e:cenv.cells.lookup y=some c:=e
   rcases mem e with ⟨h1,_⟩ | ⟨h1,_⟩
   ·exact (hfp b hb).1.2.2.2.2.1 y c h1 z
   ·have h2:s.heap.objs.size+1≤b:=by rw [← z];exact h1
    exact absurd (Nat.lt_of_lt_of_le (hfp b hb).2 (Nat.le_of_succ_le h2)) (Nat.lt_irrefl _)
  ·rcases (hfp b hb).1.2.2.2.1 with z | z
   ·exact I.ok.noex b o e z
   ·exact absurd (Nat.lt_of_lt_of_le (Heap.lt_size e) (Nat.le_trans I.ok.bsz z)) (Nat.lt_irrefl _)
  ·rcases List.mem_cons.mp (I.stkSub b z) with z | z
   ·exact (hfp b hb).1.2.1 z
   ·exact (hfp b hb).1.2.2.1 z
 refine ⟨okB,rfl,I.bare,Un.kept kp,⟨fun _=>none,?_,fun i y av e1 e2 e3=>?_⟩,fun y c e=>?_,?_,fun y c e=>?_,fun p hp=>?_,I.hok.kept kp,by rw [wipe_length];exact I.len⟩
 ·show Heap.Ns _ cenv.locals _
  rw [hL]
  exact Heap.Ns.keeps (Heap.Ns.new ..) fun b o e=>pushCells_keeps _ _ _ _ e
 ·obtain ⟨e2,hne⟩:=wipe_some e2
  have hfr:scope.names.lookup y=some .free∧(cenv.kindOf y=some .cell∨cenv.kindOf y=some .free):=by
   have key:∀ k,cenv.scope.names.lookup y=some k→k=.local∨k=.cell∨k=.free→scope.names.lookup y=some .free∧(cenv.kindOf y=some .cell∨cenv.kindOf y=some .free):=fun k hk hk'=>by
    have hk0:=hk
    rw [hsc] at hk
    obtain ⟨k',e,r⟩:=lookup_relS hk
    have no:¬ (k'=.local∨k'=.cell):=fun hh=>by
     rcases ok.own _ (PySem.mem_of_lookup e) hh with e' | e'
     ·obtain ⟨p,hp,hpy⟩:=List.mem_map.mp e'
      have e3:=ok.ix p hp
      have:p.1=y:=hpy
      rw [this] at e3
      exact hne (List.mem_map.mpr ⟨p,hp,nodup_ix hN e3 e1⟩)
     ·exact e' (List.mem_of_getElem? e1)
    rcases r with rfl | ⟨rfl,rfl⟩
    ·rcases hk' with rfl | rfl | rfl
     ·exact absurd (.inl rfl) no
     ·exact absurd (.inr rfl) no
     ·exact ⟨e,.inr hk0⟩
    ·exact ⟨e,.inl hk0⟩
   have e3:Vis cenv.scope y:=e3
   rcases e3 with e3 | e3 | e3
   ·exact key _ e3 (.inl rfl)
   ·exact key _ e3 (.inr (.inl rfl))
   ·exact key _ e3 (.inr (.inr rfl))
  obtain ⟨m,hn,hl⟩:=I.loc
  have hvis:Vis X.env.scope y:=(ok.free _ (PySem.mem_of_lookup hfr.1) rfl).elim (fun k=>.inr (.inl k)) (fun k=>.inr (.inr k))
  obtain ⟨w,r,q⟩:=hl i y av e1 e2 hvis
  refine ⟨w,r,.inr ⟨hfr.2,?_⟩⟩
  obtain ⟨c,h1,h2⟩:=look hfr.1
  rcases q with ⟨k,_⟩ | ⟨_,c',e',z⟩
  ·have k:X.env.scope.names.lookup y=some .local:=k
   rcases ok.free _ (PySem.mem_of_lookup hfr.1) rfl with k' | k'<;>rw [show X.env.scope.names.lookup y=_ from k'] at k<;>cases k
  ·rw [h2] at e';cases e'
   exact ⟨c,h1,z.keeps kp⟩
 ·have e:cenv.cells.lookup y=some c:=e
  rcases mem e with ⟨h1,_⟩ | ⟨_,z⟩
  ·obtain ⟨w,z⟩:=I.cell y c h1
   exact ⟨w,z.keeps kp⟩
  ·exact ⟨_,z⟩
 ·show H cenv.locals=none
  rw [hL];exact I.hok.fresh (Nat.le_refl _)
 ·have e:cenv.cells.lookup y=some c:=e
  rcases mem e with ⟨h1,_⟩ | ⟨h1,_⟩
  ·exact I.freeC y c h1
  ·exact I.hok.fresh (Nat.le_of_succ_le h1)
 ·exact absurd (show p∈([]:List (Addr × Obj))++[] from hp) (by simp)
theorem app_ok {E:Value→Shared→Prop}{D:Addr}{xs:List V}{y:V}{v:Value}{Q:Value→Shared→Prop} (I:Inv X pins σ H s) (hD:H D=some (.lst xs)) (hz:xs.length<sizeLine) (r:RelV y v)
  (h:∀ s',Inv X pins σ (upd H D (.lst (xs++[y]))) s'→Q .none s'):wpAny (model X.prog X.w) X.A (call (.builtin "list.append") [.ref D,v]) Q E s:=by
 obtain ⟨hz',its,n,ri,e⟩:=I.hok D _ hD
 have hl:=ri.length
 refine append_at (hsz:=by rw [List.size_toArray];omega) e fun h' sb ho'=>?_
 refine h { s with heap:=h' } (I.write (t':=s.toks) (by rw [hD];trivial) (.inl rfl) (fun b u hb q=>(sb.2 b hb).trans q) ⟨_,ho'⟩ ⟨by rw [List.length_append];exact hz,its++[v],n+1,ri.append (.cons r .nil),?_⟩)
 rw [ho']
 simp
def PTs (X:Cx) (ifs:List Expr) (t:TT):Prop :=
 ∀ (pins:List (Addr × Obj)) (s:Shared) (σ:St) (H:Hp) (Q:Bool→Hp→Prop),Inv X pins σ H s→t σ H Q →
  wpAny (model X.prog X.w) X.A (forIn ifs true fun c r=>if r=true then do let ok ← isTrue c X.env (eval c X.env);pure (ForInStep.yield ok) else pure (ForInStep.yield r)) (TP X pins σ Q) X.xe s
def tYes:TT:=fun _ H Q=>Q true H
theorem pts_nil:PTs X [] tYes:=fun _ _ _ H _ I h=>wpAny_tests_nil ⟨H,I,h⟩
end
theorem thnF {α:Type}{t:Sem α}{Q Q':α→Shared→Prop}{M:Model}{A:Around}{E:Value→Shared→Prop}{s:Shared} (h:wpAny M A t Q (fun _ _=>False) s) (hQ:∀ a s,Q a s→Q' a s):wpAny M A t Q' E s:=wpAny_mono h hQ fun _ _ z=>False.elim z
theorem compLoop_any {prog:Program}{w:World}{A:Around}{R:Result→Shared→Prop}{s:Shared}{elt target iter:Expr}{ifs:List Expr}{scope:Scope}{pos:Pos}{it acc:Value}{env:Env} (I:Nat→Shared→Prop)
  (turn:∀ n s,I n s→wpAny (model prog w) A (pyNext it) (fun r s₁=>match r with
   | none=>R (.ok .next) s₁
   | some v=>wpAny (model prog w) A (letOwnedTupleGo target it v) (fun _ s₁'=>wpAny (model prog w) A (assign target env v) (fun _ s₂ =>
     wpAny (model prog w) A (forIn ifs true fun c r=>if r=true then do let ok ← isTrue c env (eval c env);pure (ForInStep.yield ok) else pure (ForInStep.yield r)) (fun ok s₃ =>
      if ok=true then wpAny (model prog w) A (eval elt env) (fun x s₄ =>
       wpAny (model prog w) A (call (.builtin "list.append") [acc,x]) (fun _ s₅=>∃ m,m<n∧I m s₅) (notedBy (model prog w) A env fun e s'=>R (.error e) s') s₄) (notedBy (model prog w) A env fun e s'=>R (.error e) s') s₃
      else ∃ m,m<n∧I m s₃) (notedBy (model prog w) A env fun e s'=>R (.error e) s') s₂) (notedBy (model prog w) A env fun e s'=>R (.error e) s') s₁') (notedBy (model prog w) A env fun e s'=>R (.error e) s') s₁) (notedBy (model prog w) A env fun e s'=>R (.error e) s') s)
  (n:Nat) (h:I n s) :
  codeAny (model prog w) A (.compLoop (.ListComp elt [⟨target,iter,ifs,0⟩] scope pos) 0 it acc env) R s:=by
 refine codeAny_loop rfl I (fun n s hI=>?_) n h
 show wpAny _ A ((compTurn (.ListComp elt [⟨target,iter,ifs,0⟩] scope pos) 0 it acc env).onRaise (fun x=>do noteFrame x env;theTreesLotGoes x)) _ _ s
 refine wpAny_noted ?_
 rw [compTurn_list]
 refine wpAny_bind (wpAny_standAt (wpAny_bind (wpAny_mono (turn n s hI) (fun r s₁ h₁=>?_) fun _ _ h'=>h')))
 cases r with
 | none=>exact wpAny_pure h₁
 | some v =>
  refine wpAny_bind (wpAny_mono h₁ (fun _ s₁' h₁'=>?_) fun _ _ h'=>h')
  refine wpAny_bind (wpAny_mono h₁' (fun _ s₂ h₂=>wpAny_bind (wpAny_mono h₂ (fun ok s₃ h₃=>?_) fun _ _ h'=>h')) fun _ _ h'=>h')
  cases ok with
  | false=>exact wpAny_pure ⟨rfl,h₃⟩
  | true =>
   exact wpAny_bind (wpAny_bind (wpAny_mono h₃ (fun x s₄ h₄=>wpAny_bind (wpAny_mono h₄ (fun _ s₅ h₅=>wpAny_pure (wpAny_pure ⟨rfl,h₅⟩)) fun _ _ h'=>h')) fun _ _ h'=>h'))
section
variable {X:Cx}
def tLc (wi:TI) (g:TG) (tt:TT) (te:TE) (vs:List Nat):TE:=fun σ H Q=>wi σ H fun J H1=>∀ D,H1 D=none→∃ W:Nat→Nat→Hp→Prop,(∃ m,W 0 m (upd H1 D (.lst [])))∧∀ i m H,W i m H →
 (J.stop i H∧Q (.ref D) H)∨(J.go i H∧∃ Nx:Hp→Prop,(∀ H',Nx H'→∃ m',m'<m∧W (i+1) m' H')∧∀ x H',J.yld i H x H'→g x (wipe σ vs) H' fun σ2 H2=>wipe σ2 vs=wipe σ vs∧tt σ2 H2 fun b H3 =>
  if b=true then te σ2 H3 fun y H4=>∃ acc,H4 D=some (.lst acc)∧acc.length<sizeLine∧Nx (upd H4 D (.lst (acc++[y]))) else Nx H3)
theorem lc_core {pins:List (Addr × Obj)}{s:Shared}{σ:St}{H:Hp}{Q:VK}{elt tg iter:Expr}{ifs:List Expr}{scope:Scope}{own:List (Str × Nat)}{pos pos':Pos}{wi:TI}{g:TG}{tt:TT}{te:TE}{use:Option (Value→Sem Unit)}{Qf:Value→Shared→Prop}
  (hc:X.calm=true) (hN:X.N.Nodup) (I:Inv X pins σ H s) (hi:PI X tg iter wi) (ok:BlkOk X.N X.env.scope scope own)
  (hg:∀ (s:Shared) (H:Hp) (C:Addr) (cl:List (Str × Addr)) (fp:List Addr),PG (X.blk s H scope (compEnvC scope cl C X.env) fp) tg g) (ht:∀ (s:Shared) (H:Hp) (C:Addr) (cl:List (Str × Addr)) (fp:List Addr),PTs (X.blk s H scope (compEnvC scope cl C X.env) fp) ifs tt)
  (he:∀ (s:Shared) (H:Hp) (C:Addr) (cl:List (Str × Addr)) (fp:List Addr),PE (X.blk s H scope (compEnvC scope cl C X.env) fp) elt te) (hs:∀ x,foldedSetIterable iter X.env x=pure x)
  (h:tLc wi g tt te (own.map (·.2)) σ H Q)
  (hRR:∀ D C s' m H',Inv X pins σ H' s'→Q (.ref D) H'→s'.heap.Ns C m→FpOk X pins H' C→compPost (model X.prog X.w) X.A X.xe use Qf (.ref D) C (.ok .next) s') :
  wpAny (model X.prog X.w) X.A (comprehension (.ListComp elt [⟨tg,iter,ifs,0⟩] scope pos) scope X.env pos' (newList []) false (eval iter X.env) use) Qf X.xe s:=by
 have hfree:∀ y∈scope.names,y.2=.free→∃ c,X.env.cells.lookup y.1=some c:=fun y hy e=>by
  rcases ok.free y hy e with k | k
  ·exact I.ok.has _ (.inl k)
  ·exact I.ok.has _ (.inr k)
 refine wpAny_comprehension_free (use:=use) rfl hs (closure_ok hfree) ok.kind (fun y hy e=>by rw [ok.uniq y hy,e])
  (thn (hi pins s σ H _ I h) fun xv s1 hx=>thn hx fun itv s2 h2=>?_)
 obtain ⟨it,fp,tn,J,H2,e,I2,T,st2,f2,q⟩:=h2
 subst e
 refine wpAny_newObj_type (newEnv_comp ?_) (by show 0≤sizeLine;decide)
 generalize hD:s2.heap.objs.size=D
 have hDn:H2 D=none:=I2.hok.fresh (Nat.le_of_eq hD)
 obtain ⟨W,⟨m0,w0⟩,turn⟩:=q D hDn
 generalize hs3:({ s2 with heap:=s2.heap.push { cls:=.type "list",data:=.seq ([]:List Value).toArray } }:Shared)=s3
 have I3:Inv X pins σ (upd H2 D (.lst [])) s3:=by
  rw [← hs3]
  refine I2.laid (t':=s2.toks) (fun b o e=>Heap.get?_push_of_some _ e) (Nat.le_of_eq hD) ⟨Nat.zero_le _,[],0,.nil,?_⟩
  rw [← hD]
  exact Heap.get?_push_size _ rfl
 have h3:s3.heap=s2.heap.push { cls:=.type "list",data:=.seq ([]:List Value).toArray }:=by rw [← hs3]
 have sz:∀ b∈fp,b<s2.heap.objs.size:=fun b hb=>by
  obtain ⟨o,e,_⟩:=T.obj _ _ st2 b hb
  exact Heap.lt_size e
 have f3:∀ b∈fp,FpOk X pins (upd H2 D (.lst [])) b∧b<s3.heap.objs.size:=fun b hb=>by
  have hlt:=sz b hb
  refine ⟨⟨?_,(f2 b hb).2⟩,by rw [h3,Heap.size_push];exact Nat.lt_succ_of_lt hlt⟩
  rw [upd_ne (by rw [← hD];exact Nat.ne_of_lt hlt)]
  exact (f2 b hb).1
 have st3:tn 0 s3.heap:=T.keep _ _ _ st2 fun b _ o e=>by rw [h3];exact Heap.get?_push_of_some _ e
 have I4:=block_start I3 ok hN f3
 have pg:=hg s3 (upd H2 D (.lst [])) s3.heap.objs.size (cellsFrom (s3.heap.objs.size+1) scope.names (cloFrom X.env.cells scope.names [])) fp
 have pt:=ht s3 (upd H2 D (.lst [])) s3.heap.objs.size (cellsFrom (s3.heap.objs.size+1) scope.names (cloFrom X.env.cells scope.names [])) fp
 have pe:=he s3 (upd H2 D (.lst [])) s3.heap.objs.size (cellsFrom (s3.heap.objs.size+1) scope.names (cloFrom X.env.cells scope.names [])) fp
 show codeAny _ _ (.compStart (.ListComp elt [⟨tg,iter,ifs,0⟩] scope pos) 0 (.ref it) (.ref D) (compEnvC scope (cellsFrom (s3.heap.objs.size+1) scope.names (cloFrom X.env.cells scope.names [])) s3.heap.objs.size X.env)) (compPost (model X.prog X.w) X.A X.xe use Qf (.ref D) s3.heap.objs.size) { s3 with heap:=pushCells (s3.heap.push { cls:=.type "dict",data:=.dict #[] }) scope.names }
 have nfp:∀ b∈fp,(upd H2 D (.lst [])) b=none:=fun b hb=>(f3 b hb).1.1
 generalize hce:compEnvC scope (cellsFrom (s3.heap.objs.size+1) scope.names (cloFrom X.env.cells scope.names [])) s3.heap.objs.size X.env=ce at I4 pg pt pe ⊢
 have cL:ce.locals=s3.heap.objs.size:=by subst hce;rfl
 generalize hH3:upd H2 D (.lst [])=H3 at I3 I4 pg pt pe w0 nfp f3
 generalize hs4:({ s3 with heap:=pushCells (s3.heap.push { cls:=.type "dict",data:=.dict #[] }) scope.names }:Shared)=s4 at I4 ⊢
 have st4:tn 0 s4.heap:=T.keep _ _ _ st3 fun b _ o e=>by rw [← hs4];exact pushCells_keeps _ _ _ _ (Heap.get?_push_of_some _ e)
 have stat:∀ {σ':St}{H':Hp}{s':Shared},Inv (X.blk s3 H3 scope ce fp) [] σ' H' s'→(∀ b∈fp,H' b=none)→∀ b∈fp,FpOk (X.blk s3 H3 scope ce fp) [] H' b:=fun {σ' H' s'} I' hn b hb =>
  ⟨hn b hb,(I'.ok.exf b hb).1,I'.ok.exfs b hb,.inl hb,fun x c e=>(I'.ok.exf b hb).2 x c e,fun p hp=>absurd (show p∈([]:List (Addr × Obj))++[] from hp) (by simp)⟩
 have loop:codeAny (model X.prog X.w) X.A (.compLoop (.ListComp elt [⟨tg,iter,ifs,0⟩] scope pos) 0 (.ref it) (.ref D) ce) (compPost (model X.prog X.w) X.A X.xe use Qf (.ref D) s3.heap.objs.size) s4:=by
  refine compLoop_any (fun n s'=>∃ i H',Inv (X.blk s3 H3 scope ce fp) [] (wipe σ (own.map (·.2))) H' s'∧tn i s'.heap∧(∀ b∈fp,H' b=none)∧W i n H') ?_ m0 ⟨0,H3,I4,st4,nfp,w0⟩
  rintro n s5 ⟨i,H5,I5,st5,n5,w5⟩
  rcases turn i n H5 w5 with ⟨stop,qq⟩ | ⟨go,Nx,hNx,step⟩
  ·have td:=T.done (X.blk s3 H3 scope ce fp) rfl rfl rfl hc i [] s5 _ H5 (fun _ _=>False) I5 (stat I5 n5) st5 stop
   refine thnF td fun r s6 ⟨hr,I6⟩=>?_
   subst hr
   have I7:Inv X pins σ H5 s6:=I3.call' (ch:=fp) I6.os I6.base I6.hok I6.bare fun b hb=>⟨(f3 b hb).1.2.2.2.1,(f3 b hb).1.2.1,(f3 b hb).1.2.2.2.2.1,(f3 b hb).1.2.2.2.2.2⟩
   have nC:H5 s3.heap.objs.size=none:=by
    have z:H5 ce.locals=none:=I6.free
    rw [cL] at z
    exact z
   obtain ⟨m,hn,_⟩:=I6.loc
   have hn:s6.heap.Ns ce.locals m:=hn
   rw [cL] at hn
   exact hRR D s3.heap.objs.size s6 m H5 I7 qq hn (I3.fpOk (Nat.le_refl _) nC)
  ·have ti:=T.item (X.blk s3 H3 scope ce fp) rfl rfl rfl hc i [] s5 _ H5 (fun _ _=>False) I5 (stat I5 n5) st5 go
   refine thnF ti fun r s6 ⟨u,hr,h6⟩=>?_
   subst hr
   refine thnF h6 fun _ s7 ⟨x,H7,I7,r7,y7,st7,n7⟩=>?_
   have I7':=I7.pinned (stat I7 n7) (T.obj _ _ st7)
   refine thnF (pg _ s7 _ H7 x u _ I7' r7 (step x H7 y7)) fun _ s8 ⟨σ8,H8,I8,hw8,q8⟩=>?_
   refine thnF (pt _ s8 σ8 H8 _ I8 q8) fun b s9 ⟨H9,I9,q9⟩=>?_
   have fin:∀ {s':Shared}{H':Hp},Inv (X.blk s3 H3 scope ce fp) ([]++pinsAt fp s7.heap) σ8 H' s'→Nx H'→∃ m,m<n∧∃ i H',Inv (X.blk s3 H3 scope ce fp) [] (wipe σ (own.map (·.2))) H' s'∧tn i s'.heap∧(∀ b∈fp,H' b=none)∧W i m H':=fun {s' H'} I' nx=>by
    obtain ⟨m',hm,w'⟩:=hNx H' nx
    have pin':∀ b∈fp,∀ o,s7.heap.get? b=some o→s'.heap.get? b=some o∧H' b=none:=fun b hb o e =>
     let z:=I'.pin (b,o) (List.mem_append_right _ (List.mem_append_right _ (mem_pinsAt hb e)))
     ⟨z.1,z.2.1⟩
    have hl:(wipe σ (own.map (·.2))).length=σ8.length:=by rw [← hw8,wipe_length]
    refine ⟨m',hm,i+1,H',(I'.unpinned (pins:=[])).weak hl (fun j v e=>?_),T.keep _ _ _ st7 fun b hb o e=>(pin' b hb o e).1,fun b hb=>?_,w'⟩
    ·rw [← hw8] at e
     exact (wipe_some e).1
    ·obtain ⟨o,e,_⟩:=T.obj _ _ st7 b hb
     exact (pin' b hb o e).2
   cases b with
   | false =>
    simp only [Bool.false_eq_true,if_false] at q9 ⊢
    exact fin I9 q9
   | true =>
    simp only [if_true] at q9 ⊢
    refine thnF (pe _ s9 σ8 H9 _ I9 q9) fun z s10 ⟨yv,H10,I10,r10,acc,hD10,hz10,nx⟩=>?_
    exact app_ok (X:=X.blk s3 H3 scope ce fp) I10 hD10 hz10 r10 fun s11 I11=>fin I11 nx
 exact codeAny_compStart_list loop (T.self X.A 0 _ _ _ st4 loop)
theorem pe_lc {elt tg iter:Expr}{ifs:List Expr}{scope:Scope}{own:List (Str × Nat)}{pos:Pos}{wi:TI}{g:TG}{tt:TT}{te:TE} (hc:X.calm=true) (hN:X.N.Nodup) (hi:PI X tg iter wi) (ok:BlkOk X.N X.env.scope scope own)
  (hg:∀ (s:Shared) (H:Hp) (C:Addr) (cl:List (Str × Addr)) (fp:List Addr),PG (X.blk s H scope (compEnvC scope cl C X.env) fp) tg g) (ht:∀ (s:Shared) (H:Hp) (C:Addr) (cl:List (Str × Addr)) (fp:List Addr),PTs (X.blk s H scope (compEnvC scope cl C X.env) fp) ifs tt)
  (he:∀ (s:Shared) (H:Hp) (C:Addr) (cl:List (Str × Addr)) (fp:List Addr),PE (X.blk s H scope (compEnvC scope cl C X.env) fp) elt te) (hs:∀ x,foldedSetIterable iter X.env x=pure x:=by intro _;rfl) :
  PE X (.ListComp elt [⟨tg,iter,ifs,0⟩] scope pos) (tLc wi g tt te (own.map (·.2))):=by
 intro pins s σ H Q I h
 rw [eval_ListComp]
 refine lc_core hc hN I hi ok hg ht he hs h fun D C s' m H' I' q hn f=>⟨m,hn,fun h'' sb=>?_⟩
 obtain ⟨f0,f1,f2,f3,f4,f5⟩:=f
 exact ⟨.ref D,H',I'.turned (t':=s'.toks) (fun b o hb e=>(sb.2 b hb).trans e) f0 f1 f3 f4 f5,rfl,q⟩
theorem ps_setLc {i:Nat}{y:Str}{py:Pos}{elt tg iter:Expr}{ifs:List Expr}{scope:Scope}{own:List (Str × Nat)}{pos spos:Pos}{wi:TI}{g:TG}{tt:TT}{te:TE} (hc:X.calm=true) (hN:X.N.Nodup) (hy:X.N[i]?=some y) (hyl:X.env.scope.names.lookup y=some .local)
  (hsw:swapsWith (.ListComp elt [⟨tg,iter,ifs,0⟩] scope pos) (some (.Name y py)) spos.line X.env=pure true) (hi:PI X tg iter wi) (ok:BlkOk X.N X.env.scope scope own)
  (hg:∀ (s:Shared) (H:Hp) (C:Addr) (cl:List (Str × Addr)) (fp:List Addr),PG (X.blk s H scope (compEnvC scope cl C X.env) fp) tg g) (ht:∀ (s:Shared) (H:Hp) (C:Addr) (cl:List (Str × Addr)) (fp:List Addr),PTs (X.blk s H scope (compEnvC scope cl C X.env) fp) ifs tt)
  (he:∀ (s:Shared) (H:Hp) (C:Addr) (cl:List (Str × Addr)) (fp:List Addr),PE (X.blk s H scope (compEnvC scope cl C X.env) fp) elt te) (hs:∀ x,foldedSetIterable iter X.env x=pure x:=by intro _;rfl) :
  PS X (.Assign [.Name y py] (.ListComp elt [⟨tg,iter,ifs,0⟩] scope pos) spos) (tAsg (tLc wi g tt te (own.map (·.2))) (gName i)):=by
 intro pins s σ H D I h
 rw [exec_Assign_Name_used _ _ _ _ hsw]
 refine wpAny_bind (wpAny_standAt (wpAny_bind ?_))
 show wpAny _ X.A (do let _ ← comprehension (.ListComp elt [⟨tg,iter,ifs,0⟩] scope pos) scope X.env (firstIterPos [⟨tg,iter,ifs,0⟩] pos) (newList []) false (eval iter X.env) (some (assign (.Name y py) X.env))) _ _ s
 have h:tLc wi g tt te (own.map (·.2)) σ H (fun x H1=>gName i x σ H1 D.nx):=h
 refine wpAny_bind (thn (lc_core (Qf:=fun _ s'=>SP X pins D .next s') hc hN I hi ok hg ht he hs h fun L C s' m H' I' q hn f=>?_) fun _ s' hq=>wpAny_pure (wpAny_pure hq))
 show wpAny _ _ (assign (.Name y py) X.env (.ref L)) _ _ _
 refine wpAny_assign_Name (store_ok2 (v:=V.ref L) I' hN hy (.inl hyl) rfl (fun s2 I2 ⟨a,sb,ha⟩=>?_) (.inr hyl))
 obtain ⟨f0,f1,f2,f3,f4,f5⟩:=f
 have haC:C≠a:=by
  rcases ha with z | z
  ·rw [z];exact f1
  ·exact fun e=>f4 y a z e.symm
 refine ⟨m,hn.sameBut sb haC,fun h3 sb3=>?_⟩
 exact ⟨_,H',I2.turned (t':=s2.toks) (fun b o hb e=>(sb3.2 b hb).trans e) f0 f1 f3 f4 f5,q⟩
end
theorem lc_list {K:PySem.W.Frag}{a:Addr}{xs:List V}{g:TG}{tt:TT}{te:TE}{vs:List Nat}{σ:St}{H1:Hp}{D:Addr}{Qd:Hp→Prop} (Pv:Nat→Hp→Prop) (h0:Pv 0 (upd H1 D (.lst []))) (hl:∀ i H,i≤xs.length→Pv i H→SqL K H a xs)
  (hs:∀ i x H,xs[i]?=some x→Pv i H→g x (wipe σ vs) H fun σ2 H2=>wipe σ2 vs=wipe σ vs∧tt σ2 H2 fun b H3 =>
   if b=true then te σ2 H3 fun y H4=>∃ acc,H4 D=some (.lst acc)∧acc.length<sizeLine∧Pv (i+1) (upd H4 D (.lst (acc++[y]))) else Pv (i+1) H3) (hd:∀ H,Pv xs.length H→Qd H) :
  ∃ W:Nat→Nat→Hp→Prop,(∃ m,W 0 m (upd H1 D (.lst [])))∧∀ i m H,W i m H →
   ((Itl K a).stop i H∧Qd H)∨((Itl K a).go i H∧∃ Nx:Hp→Prop,(∀ H',Nx H'→∃ m',m'<m∧W (i+1) m' H')∧∀ x H',(Itl K a).yld i H x H'→g x (wipe σ vs) H' fun σ2 H2=>wipe σ2 vs=wipe σ vs∧tt σ2 H2 fun b H3 =>
    if b=true then te σ2 H3 fun y H4=>∃ acc,H4 D=some (.lst acc)∧acc.length<sizeLine∧Nx (upd H4 D (.lst (acc++[y]))) else Nx H3):=by
 refine ⟨fun i m H=>m=xs.length - i∧i≤xs.length∧Pv i H,⟨xs.length,by simp,Nat.zero_le _,h0⟩,?_⟩
 rintro i m H ⟨rfl,hi,p⟩
 have q:=hl i H hi p
 by_cases hlt:i<xs.length
 ·refine .inr ⟨⟨xs,xs[i],q,by simp [hlt]⟩,Pv (i+1),fun H' p'=>⟨xs.length - (i+1),by omega,rfl,hlt,p'⟩,fun x H' y=>?_⟩
  obtain ⟨e,y⟩:=y
  subst e
  exact hs i x _ (y xs q) p
 ·have e:i=xs.length:=by omega
  subst e
  exact .inl ⟨⟨xs,q,Nat.le_refl _⟩,hd H p⟩
end L2
namespace L2
open PySem PySem.Spec PyProof.Rows
section
variable {κ:Type} [DecidableEq κ]
def valV (kvs:List (κ × V)) (k:κ):Option V:=(kvs.find? fun kv=>decide (kv.1=k)).map (·.2)
def putK (kvs:List (κ × V)) (k:κ) (v:V):List (κ × V) :=
 if (kvs.any fun kv=>decide (kv.1=k))=true then kvs.map (fun kv=>if kv.1=k then (kv.1,v) else kv) else kvs++[(k,v)]
def dropK (kvs:List (κ × V)) (k:κ):List (κ × V):=kvs.filter fun kv=>decide (kv.1≠k)
theorem valV_nil {k:κ}:valV ([]:List (κ × V)) k=none:=rfl
theorem valV_pos {p:κ × V}{r:List (κ × V)}{k:κ} (e:p.1=k):valV (p::r) k=some p.2:=by simp [valV,List.find?_cons,e]
theorem valV_neg {p:κ × V}{r:List (κ × V)}{k:κ} (e:¬ p.1=k):valV (p::r) k=valV r k:=by simp [valV,List.find?_cons,e]
theorem valV_any (k:κ):∀ kvs:List (κ × V),(kvs.any fun kv=>decide (kv.1=k))=(valV kvs k).isSome
 | []=>rfl
 | p::r=>by
  rw [List.any_cons]
  by_cases e:p.1=k
  ·simp only [valV_pos e,decide_eq_true e,Bool.true_or,Option.isSome_some]
  ·rw [valV_neg e,decide_eq_false e,Bool.false_or];exact valV_any k r
theorem valV_map (k j:κ) (y:V):∀ kvs:List (κ × V),valV (kvs.map fun kv=>if kv.1=k then (kv.1,y) else kv) j=(valV kvs j).map fun x=>if j=k then y else x
 | []=>rfl
 | p::r=>by
  have ih:=valV_map k j y r
  rw [List.map_cons]
  by_cases h:p.1=k
  ·rw [if_pos h]
   by_cases e:p.1=j
   ·rw [valV_pos (p:=(p.1,y)) e,valV_pos e,Option.map_some,if_pos (e.symm.trans h)]
   ·rw [valV_neg (p:=(p.1,y)) e,valV_neg e,ih]
  ·rw [if_neg h]
   by_cases e:p.1=j
   ·rw [valV_pos (p:=p) e,valV_pos e,Option.map_some,if_neg (fun z=>h (e.trans z))]
   ·rw [valV_neg (p:=p) e,valV_neg e,ih]
theorem valV_snoc (k j:κ) (y:V):∀ kvs:List (κ × V),valV kvs k=none→valV (kvs++[(k,y)]) j=if j=k then some y else valV kvs j
 | [],_=>by
  by_cases e:k=j
  ·rw [if_pos e.symm];exact valV_pos (p:=(k,y)) e
  ·rw [if_neg (fun z=>e z.symm)];exact valV_neg (p:=(k,y)) e
 | p::r,hn=>by
  rw [List.cons_append]
  have hk:¬ p.1=k:=fun z=>by rw [valV_pos z] at hn;cases hn
  rw [valV_neg hk] at hn
  have ih:=valV_snoc k j y r hn
  by_cases e:p.1=j
  ·rw [valV_pos e,valV_pos e,if_neg (fun z=>hk (e.trans z))]
  ·rw [valV_neg e,valV_neg e,ih]
theorem valV_put (kvs:List (κ × V)) (k j:κ) (y:V):valV (putK kvs k y) j=if j=k then some y else valV kvs j:=by
 unfold putK
 by_cases a:(kvs.any fun kv=>decide (kv.1=k))=true
 ·rw [if_pos a,valV_map]
  rw [valV_any] at a
  by_cases e:j=k
  ·obtain ⟨x,hx⟩:=Option.isSome_iff_exists.mp a
   rw [if_pos e,e,hx,Option.map_some,if_pos rfl]
  ·rw [if_neg e]
   cases valV kvs j with
   | none=>rfl
   | some x=>rw [Option.map_some,if_neg e]
 ·rw [if_neg a]
  refine valV_snoc k j y kvs ?_
  rw [valV_any] at a
  cases q:valV kvs k with
  | none=>rfl
  | some x=>rw [q] at a;exact (a rfl).elim
theorem length_putK (kvs:List (κ × V)) (k:κ) (v:V):(putK kvs k v).length≤kvs.length+1:=by
 unfold putK
 split
 ·rw [List.length_map];omega
 ·rw [List.length_append,List.length_cons,List.length_nil];omega
theorem putK_new {kvs:List (κ × V)}{k:κ} (v:V) (h:valV kvs k=none):putK kvs k v=kvs++[(k,v)]:=by
 unfold putK
 rw [valV_any,h]
 exact if_neg (by decide)
theorem RelO.isSome_eq {o:Option V}{u:Option Value} (r:RelO o u):o.isSome=u.isSome:=by
 cases o with
 | none=>cases u with
  | none=>rfl
  | some _=>exact (show False from r).elim
 | some _=>cases u with
  | none=>exact (show False from r).elim
  | some _=>rfl
theorem RelO.getD {o:Option V}{u:Option Value}{d:V}{d':Value} (r:RelO o u) (rd:RelV d d'):RelV (o.getD d) (u.getD d'):=by
 cases o with
 | none=>cases u with
  | none=>exact rd
  | some _=>exact (show False from r).elim
 | some _=>cases u with
  | none=>exact (show False from r).elim
  | some _=>exact r
theorem KV.val {kvs:List (κ × V)}{vs:List (κ × Value)} (r:KV kvs vs) (k:κ):RelO (valV kvs k) (valueAt vs k):=by
 unfold KV at r
 induction r with
 | nil=>exact True.intro
 | @cons p q ps qs h t ih =>
  obtain ⟨h1,h2⟩:=h
  by_cases e:p.1=k
  ·have e':q.1=k:=h1.symm.trans e
   have b:valueAt (q::qs) k=some q.2:=by simp [valueAt,List.find?_cons,e']
   rw [valV_pos e,b];exact h2
  ·have e':¬ q.1=k:=fun z=>e (h1.trans z)
   have b:valueAt (q::qs) k=valueAt qs k:=by simp [valueAt,List.find?_cons,e']
   rw [valV_neg e,b];exact ih
theorem KV.any {kvs:List (κ × V)}{vs:List (κ × Value)} (r:KV kvs vs) (k:κ):(kvs.any fun kv=>decide (kv.1=k))=vs.any fun kv=>decide (kv.1=k):=by
 unfold KV at r
 induction r with
 | nil=>rfl
 | cons h t ih=>rw [List.any_cons,List.any_cons,ih,h.1]
theorem KV.repl {kvs:List (κ × V)}{vs:List (κ × Value)} (r:KV kvs vs) (k:κ) {y:V}{u:Value} (ry:RelV y u) :
  KV (kvs.map fun kv=>if kv.1=k then (kv.1,y) else kv) (vs.map fun kv=>if kv.1=k then (kv.1,u) else kv):=by
 unfold KV at r ⊢
 induction r with
 | nil=>exact .nil
 | @cons p q ps qs h t ih =>
  rw [List.map_cons,List.map_cons]
  refine .cons ?_ ih
  obtain ⟨h1,h2⟩:=h
  by_cases e:p.1=k
  ·rw [if_pos e,if_pos (h1.symm.trans e)];exact ⟨h1,ry⟩
  ·rw [if_neg e,if_neg (fun z=>e (h1.trans z))];exact ⟨h1,h2⟩
theorem KV.put {kvs:List (κ × V)}{vs:List (κ × Value)} (r:KV kvs vs) (k:κ) {y:V}{u:Value} (ry:RelV y u):KV (putK kvs k y) (stored vs k u):=by
 unfold putK stored
 rw [r.any k]
 by_cases e:(vs.any fun kv=>decide (kv.1=k))=true
 ·rw [if_pos e,if_pos e];exact r.repl k ry
 ·rw [if_neg e,if_neg e];exact Paired.snoc r ⟨rfl,ry⟩
theorem KV.drop {kvs:List (κ × V)}{vs:List (κ × Value)} (r:KV kvs vs) (k:κ):KV (dropK kvs k) (without vs k):=by
 unfold KV at r ⊢
 unfold dropK without
 induction r with
 | nil=>exact .nil
 | @cons p q ps qs h t ih =>
  obtain ⟨h1,h2⟩:=h
  rw [List.filter_cons,List.filter_cons]
  by_cases e:p.1=k
  ·have a:¬ decide (p.1≠k)=true:=by simp [e]
   have b:¬ decide (q.1≠k)=true:=by simp [h1.symm.trans e]
   rw [if_neg a,if_neg b];exact ih
  ·have e':¬ q.1=k:=fun z=>e (h1.trans z)
   have a:decide (p.1≠k)=true:=by simp [e]
   have b:decide (q.1≠k)=true:=by simp [e']
   rw [if_pos a,if_pos b];exact .cons ⟨h1,h2⟩ ih
theorem KV.length {kvs:List (κ × V)}{vs:List (κ × Value)} (r:KV kvs vs):kvs.length=vs.length:=Paired.length r
theorem dropK_le (kvs:List (κ × V)) (k:κ):(dropK kvs k).length≤kvs.length:=List.length_filter_le _ _
end
theorem kV_is {P:Program}{w:World}{k:Key}{u:Value} (r:RelV (kV k) u):(mixKind P w).is k u=true:=by
 cases k with
 | inl i=>obtain ⟨t,e⟩:=(show ∃ t,u=Value.int i t from r);subst e;exact mixKind_int P w i t
 | inr x=>obtain ⟨t,e⟩:=(show ∃ t,u=Value.str x t from r);subst e;exact mixKind_str P w x t
theorem items_are {P:Program}{w:World}:∀ {ks:List Key}{us:List Value},Vals (ks.map kV) us→ItemsAre (mixKind P w) ks us
 | [],_,r=>by rw [List.map_nil] at r;cases r;exact .nil
 | k::ks,_,r=>by
  rw [List.map_cons] at r
  cases r with
  | cons h t=>exact .cons (kV_is h) (items_are t)
abbrev KT (H:Hp):List (List Key × V)→List (List Key × Addr × Value)→Prop:=Paired fun p q=>p.1=q.1∧H q.2.1=some (.tup (p.1.map kV))∧RelV p.2 q.2.2
theorem KT.val {H:Hp}{kvs:List (List Key × V)}{xs:List (List Key × Addr × Value)} (r:KT H kvs xs) (k:List Key):RelO (valV kvs k) ((atKey xs k).map (·.2)):=by
 induction r with
 | nil=>exact True.intro
 | @cons p q ps qs h t ih =>
  obtain ⟨h1,_,h2⟩:=h
  by_cases e:p.1=k
  ·have e':q.1=k:=h1.symm.trans e
   have b:atKey (q::qs) k=some q.2:=by simp [atKey,List.find?_cons,e']
   rw [valV_pos e,b];exact h2
  ·have e':¬ q.1=k:=fun z=>e (h1.trans z)
   have b:atKey (q::qs) k=atKey qs k:=by simp [atKey,List.find?_cons,e']
   rw [valV_neg e,b];exact ih
theorem KT.repl {H:Hp}{kvs:List (List Key × V)}{xs:List (List Key × Addr × Value)} (r:KT H kvs xs) (k:List Key) {y:V}{u:Value} (ry:RelV y u) :
  KT H (kvs.map fun kv=>if kv.1=k then (kv.1,y) else kv) (xs.map (putAt k u)):=by
 induction r with
 | nil=>exact .nil
 | @cons p q ps qs h t ih =>
  rw [List.map_cons,List.map_cons]
  refine .cons ?_ ih
  obtain ⟨h1,h2,h3⟩:=h
  unfold putAt
  by_cases e:p.1=k
  ·rw [if_pos e,if_pos (h1.symm.trans e)];exact ⟨h1,h2,ry⟩
  ·rw [if_neg e,if_neg (fun z=>e (h1.trans z))];exact ⟨h1,h2,h3⟩
theorem KT.put {H:Hp}{kvs:List (List Key × V)}{xs:List (List Key × Addr × Value)} (r:KT H kvs xs) (k:List Key) {b:Addr}{y:V}{u:Value} (hb:H b=some (.tup (k.map kV))) (ry:RelV y u) :
  KT H (putK kvs k y) (storedH xs k b u):=by
 have e:(kvs.any fun kv=>decide (kv.1=k))=(atKey xs k).isSome:=by
  rw [valV_any,(r.val k).isSome_eq,Option.isSome_map]
 unfold putK storedH
 rw [e]
 by_cases q:(atKey xs k).isSome=true
 ·rw [if_pos q,if_pos q];exact r.repl k ry
 ·rw [if_neg q,if_neg q];exact Paired.snoc r ⟨rfl,hb,ry⟩
theorem KT.keeps {H H':Hp}{kvs:List (List Key × V)}{xs:List (List Key × Addr × Value)} (r:KT H kvs xs) (ht:∀ b ys,H b=some (.tup ys)→H' b=some (.tup ys)):KT H' kvs xs :=
 Paired.mapP r fun _ _ z=>⟨z.1,ht _ _ z.2.1,z.2.2⟩
section
variable {P:Program}{w:World}{H:Hp}{h:Heap}{a:Addr}
theorem rd_of {u:HO} (ok:HOk P w H h) (e:Rd H a u):ObjOk P w H h a u:=e.ok ok
theorem dk_rd {kvs:List (Key × V)} (ok:HOk P w H h) (e:Rd H a (.dK kvs)):kvs.length≤sizeLine∧(a == sysModules)=false∧∃ vs,KV kvs vs∧h.DictOf (mixKind P w) a vs :=
 show ObjOk P w H h a (.dK kvs) from rd_of ok e
theorem dk_of {kvs:List (Key × V)} (ok:HOk P w H h) (e:H a=some (.dK kvs)):kvs.length≤sizeLine∧(a == sysModules)=false∧∃ vs,KV kvs vs∧h.DictOf (mixKind P w) a vs:=dk_rd ok (.inl e)
theorem key_of {ks:List Key} (ok:HOk P w H h) (e:H a=some (.tup (ks.map kV))):(tupleKind (mixKind P w)).is h ks a:=by
 obtain ⟨_,its,r,o,h1,h2,n,h3⟩:=(show ObjOk P w H h a (.tup (ks.map kV)) from ok a _ e)
 exact ⟨o,its.toArray,n,h1,h2,h3,by simpa using items_are r⟩
theorem dt_rd {kvs:List (List Key × V)} (ok:HOk P w H h) (e:Rd H a (.dT kvs)):kvs.length≤sizeLine∧(a == sysModules)=false ∧
  ∃ xs,KT H kvs xs∧h.DictOfH (tupleKind (mixKind P w)) a xs:=by
 obtain ⟨z,y,xs,r,o,es,ep,h1,h2,h3,h4,h5⟩:=(show ObjOk P w H h a (.dT kvs) from rd_of ok e)
 refine ⟨z,y,xs,r,o,es,ep,h1,h2,h3,h4,fun x hx=>?_,h5⟩
 have all:∀ {l:List (List Key × V)}{m:List (List Key × Addr × Value)},KT H l m→∀ x∈m,(tupleKind (mixKind P w)).is h x.1 x.2.1:=by
  intro l m q
  induction q with
  | nil=>intro x hx;exact nomatch hx
  | @cons p q ps qs hq t ih =>
   intro x hx
   rcases List.mem_cons.mp hx with e | hx
   ·subst e
    exact key_of ok (by rw [← hq.1];exact hq.2.1)
   ·exact ih x hx
 exact all r x hx
theorem dt_of {kvs:List (List Key × V)} (ok:HOk P w H h) (e:H a=some (.dT kvs)):kvs.length≤sizeLine∧(a == sysModules)=false ∧
  ∃ xs,KT H kvs xs∧h.DictOfH (tupleKind (mixKind P w)) a xs:=dt_rd ok (.inl e)
end
def DGet (H:Hp) (a:Addr) (y:V) (r:Option V):Prop :=
 (∃ kvs k,Rd H a (.dK kvs)∧y=kV k∧r=valV kvs k)∨∃ kvs k b,Rd H a (.dT kvs)∧y=.ref b∧H b=some (.tup (k.map kV))∧r=valV kvs k
def DPut (H:Hp) (a:Addr) (y v:V) (H':Hp):Prop :=
 (∃ kvs k,H a=some (.dK kvs)∧y=kV k∧kvs.length<sizeLine∧H'=upd H a (.dK (putK kvs k v))) ∨
 ∃ kvs k b,H a=some (.dT kvs)∧y=.ref b∧H b=some (.tup (k.map kV))∧kvs.length<sizeLine∧H'=upd H a (.dT (putK kvs k v))
theorem DGet.k {H:Hp}{a:Addr}{kvs:List (Key × V)}{k:Key} (e:H a=some (.dK kvs)):DGet H a (kV k) (valV kvs k):=.inl ⟨kvs,k,.inl e,rfl,rfl⟩
theorem DGet.t {H:Hp}{a b:Addr}{kvs:List (List Key × V)}{k:List Key} (e:H a=some (.dT kvs)) (eb:H b=some (.tup (k.map kV))):DGet H a (.ref b) (valV kvs k):=.inr ⟨kvs,k,b,.inl e,rfl,eb,rfl⟩
theorem DPut.k {H:Hp}{a:Addr}{kvs:List (Key × V)}{k:Key}{v:V} (e:H a=some (.dK kvs)) (hl:kvs.length<sizeLine):DPut H a (kV k) v (upd H a (.dK (putK kvs k v))):=.inl ⟨kvs,k,e,rfl,hl,rfl⟩
theorem DPut.t {H:Hp}{a b:Addr}{kvs:List (List Key × V)}{k:List Key}{v:V} (e:H a=some (.dT kvs)) (eb:H b=some (.tup (k.map kV))) (hl:kvs.length<sizeLine) :
  DPut H a (.ref b) v (upd H a (.dT (putK kvs k v))):=.inr ⟨kvs,k,b,e,rfl,eb,hl,rfl⟩
section
variable {X:Cx}{pins:List (Addr × Obj)}{σ:St}{H:Hp}{s:Shared}{a:Addr}{y v:V}{u r:Value}{o:Option V}{A:Around}{E:Value→Shared→Prop}
theorem Inv.big (I:Inv X pins σ H s):sysModules<s.heap.objs.size:=by
 have h:mainGlobals<s.heap.objs.size:=(I.mod.glob.keeps I.bk).lt
 exact Nat.lt_trans (by decide) h
theorem d_getItem {Q:Value→Shared→Prop} (hu:A.units+1<cLine) (I:Inv X pins σ H s) (g:DGet H a y (some v)) (ry:RelV y u) (h:∀ w' s',Inv X pins σ H s'→RelV v w'→Q w' s') :
  wpAny (model X.prog X.w) A (getItem (.ref a) u) Q E s:=by
 rcases g with ⟨kvs,k,e,ey,l⟩ | ⟨kvs,k,b,e,ey,eb,l⟩
 ·subst ey
  obtain ⟨z,hd,vs,rel,dd⟩:=dk_rd I.hok e
  obtain ⟨w',hw,rw'⟩:=RelO.some_of (v:=v) (o:=valueAt vs k) (by rw [l];exact rel.val k)
  exact wpAny_getItem_of (kV_is ry) dd.mapOf hw (h w' _ (I.tok _) rw')
 ·subst ey
  cases (show u=Value.ref b from ry)
  obtain ⟨z,hd,xs,rel,dd⟩:=dt_rd I.hok e
  obtain ⟨w',hw,rw'⟩:=RelO.some_of (v:=v) (o:=(atKey xs k).map (·.2)) (by rw [l];exact rel.val k)
  obtain ⟨p,hp,hp2⟩:=Option.map_eq_some_iff.mp hw
  refine wpAny_getItem_heap (tupleKind_room_in1 hu) (key_of I.hok eb) dd hp ?_
  rw [hp2]
  exact h w' _ (I.tok _) rw'
theorem d_in {Q:Value→Shared→Prop} (hu:A.units+1<cLine) (I:Inv X pins σ H s) (g:DGet H a y o) (ry:RelV y u) (h:∀ s',Inv X pins σ H s'→Q (.bool o.isSome) s') :
  wpAny (model X.prog X.w) A (compareOp .In u (.ref a)) Q E s:=by
 rcases g with ⟨kvs,k,e,ey,l⟩ | ⟨kvs,k,b,e,ey,eb,l⟩
 ·subst ey
  obtain ⟨z,hd,vs,rel,dd⟩:=dk_rd I.hok e
  refine wpAny_in_of (kV_is ry) hd dd.mapOf ?_
  rw [← (rel.val k).isSome_eq,← l]
  exact h _ (I.tok _)
 ·subst ey
  cases (show u=Value.ref b from ry)
  obtain ⟨z,hd,xs,rel,dd⟩:=dt_rd I.hok e
  refine wpAny_in_heap (tupleKind_room_in1 hu) (key_of I.hok eb) hd dd ?_
  have q:=(rel.val k).isSome_eq
  rw [Option.isSome_map] at q
  rw [← q,← l]
  exact h _ (I.tok _)
theorem d_notIn {Q:Value→Shared→Prop} (hu:A.units+1<cLine) (I:Inv X pins σ H s) (g:DGet H a y o) (ry:RelV y u) (h:∀ s',Inv X pins σ H s'→Q (.bool (!o.isSome)) s') :
  wpAny (model X.prog X.w) A (compareOp .NotIn u (.ref a)) Q E s:=by
 rcases g with ⟨kvs,k,e,ey,l⟩ | ⟨kvs,k,b,e,ey,eb,l⟩
 ·subst ey
  obtain ⟨z,hd,vs,rel,dd⟩:=dk_rd I.hok e
  refine wpAny_notIn_of (kV_is ry) hd dd.mapOf ?_
  rw [← (rel.val k).isSome_eq,← l]
  exact h _ (I.tok _)
 ·subst ey
  cases (show u=Value.ref b from ry)
  obtain ⟨z,hd,xs,rel,dd⟩:=dt_rd I.hok e
  refine wpAny_notIn_heap (tupleKind_room_in1 hu) (key_of I.hok eb) hd dd ?_
  have q:=(rel.val k).isSome_eq
  rw [Option.isSome_map] at q
  rw [← q,← l]
  exact h _ (I.tok _)
theorem d_write {h':Heap}{t':Nat}{ob:HO} (I:Inv X pins σ H s) (mu:Mut (H a)) (hs:Heap.SameBut a s.heap h') (he:∃ q,h'.get? a=some q) (new:ObjOk X.prog X.w (upd H a ob) h' a ob) :
  Inv X pins σ (upd H a ob) { s with heap:=h',toks:=t' } :=
 I.write (x:=a) (e:=a) mu (.inl rfl) (fun b q hb z=>(hs.2 b hb).trans z) he new
theorem dk_new {P:Program}{w:World}{H':Hp}{h':Heap}{kvs:List (Key × V)}{vs:List (Key × Value)} (z:kvs.length≤sizeLine) (hd:(a == sysModules)=false) (rel:KV kvs vs) (dd:h'.DictOf (mixKind P w) a vs) :
  ObjOk P w H' h' a (.dK kvs):=⟨z,hd,vs,rel,dd⟩
theorem d_setItem {H':Hp}{Q:Unit→Shared→Prop} (hu:A.units+1<cLine) (I:Inv X pins σ H s) (g:DPut H a y v H') (ry:RelV y u) (rv:RelV v r) (h:∀ s',Inv X pins σ H' s'→Q () s') :
  wpAny (model X.prog X.w) A (setItem (.ref a) u r) Q E s:=by
 rcases g with ⟨kvs,k,e,ey,l,eH⟩ | ⟨kvs,k,b,e,ey,eb,l,eH⟩
 ·subst ey eH
  obtain ⟨z,hd,vs,rel,dd⟩:=dk_of I.hok e
  have hz:vs.length≤sizeLine:=by rw [← rel.length];exact z
  have hl:(putK kvs k v).length≤sizeLine:=by have:=length_putK kvs k v;omega
  refine wpAny_setItem_pairs (hsz:=hz) (kV_is ry) dd fun h' dd' hs=>h _ ?_
  have he:∃ q,h'.get? a=some q:=let ⟨q,_,_,hq,_⟩:=dd';⟨q,hq⟩
  exact d_write I (by rw [e];exact True.intro) hs he (dk_new hl hd (rel.put k rv) dd')
 ·subst ey eH
  cases (show u=Value.ref b from ry)
  obtain ⟨z,hd,xs,rel,dd⟩:=dt_of I.hok e
  have hz:xs.length≤sizeLine:=by rw [← Paired.length rel];exact z
  have hl:(putK kvs k v).length≤sizeLine:=by have:=length_putK kvs k v;omega
  refine wpAny_setItem_heap (hsz:=hz) (tupleKind_room_in1 hu) (key_of I.hok eb) dd fun h' dd' hs=>h _ ?_
  obtain ⟨q,es,ep,hq,h2,h3,h4,_,h5⟩:=dd'
  refine d_write I (by rw [e];exact True.intro) hs ⟨q,hq⟩ ⟨hl,hd,_,(rel.put k eb rv).keeps fun c ys ec=>?_,q,es,ep,hq,h2,h3,h4,h5⟩
  rw [upd_ne (ne_of ec e (fun z=>nomatch z))]
  exact ec
end
section
variable {X:Cx}{pins:List (Addr × Obj)}{σ:St}{H:Hp}{s:Shared}{a:Addr}{kvs:List (Key × V)}{k:Key}{u:Value}{A:Around}{E:Value→Shared→Prop}
theorem d_pop {v:V}{more:List Value}{Q:Value→Shared→Prop} (I:Inv X pins σ H s) (e:H a=some (.dK kvs)) (ry:RelV (kV k) u) (l:valV kvs k=some v) (hm:more=[]∨∃ x,more=[x])
  (h:∀ w' s',Inv X pins σ (upd H a (.dK (dropK kvs k))) s'→RelV v w'→Q w' s'):wpAny (model X.prog X.w) A (call (.builtin "dict.pop") (.ref a::u::more)) Q E s:=by
 obtain ⟨z,hd,vs,rel,dd⟩:=dk_of I.hok e
 obtain ⟨w',hw,rw'⟩:=RelO.some_of (v:=v) (o:=valueAt vs k) (by rw [← l];exact rel.val k)
 have hp:(keyPart u).isSome=true:=by
  cases k with
  | inl i=>obtain ⟨t,q⟩:=(show ∃ t,u=Value.int i t from ry);subst q;rfl
  | inr x=>obtain ⟨t,q⟩:=(show ∃ t,u=Value.str x t from ry);subst q;rfl
 have ha:argsOk "dict.pop" ⟨.ref a::u::more,[]⟩:=by
  rcases hm with q | ⟨x,q⟩
  ·subst q;exact PySem.F.args_dict_pop_2 _ _
  ·subst q;exact PySem.F.args_dict_pop_3 _ _ _
 refine call_meetsIn PySem.F.slot_dict_pop dd.typeIs PySem.F.entry_dict_pop ha (meets_dict_pop_there (mixKind X.prog X.w) a (kV_is ry) more hm hp)
  ⟨vs,w',dd,by rw [← rel.length];exact z,hw,fun h' dd' hs=>h w' _ ?_ rw'⟩
 have he:∃ q,h'.get? a=some q:=let ⟨q,_,_,hq,_⟩:=dd';⟨q,hq⟩
 exact d_write I (by rw [e];exact True.intro) hs he (dk_new (Nat.le_trans (dropK_le kvs k) z) hd (rel.drop k) dd')
end
def NoSl (i:Expr):Prop:=∀ ov iv,subscripted i false ov iv=operate [ov,iv] (getItem ov iv)
theorem subD_of {prog:Program}{w:World}{A:Around}{E:Value→Shared→Prop}{s:Shared}{env:Env}{value slice:Expr}{pos:Pos}{T id:String}{Q:Value→Shared→Prop}
  (hl:typeLookup (.type T) "__getitem__"=pure (some (.builtin id))) (hs:NoSl slice)
  (h:wpAny (model prog w) A (eval value env) (fun o s₁=>wpAny (model prog w) A (eval slice env) (fun i s₂=>s₂.TypeIs o T∧wpAny (model prog w) A (getItem o i) Q E s₂) E s₁) E s) :
  wpAny (model prog w) A (eval (.Subscript value slice pos) env) Q E s:=by
 refine Subscript_ (wpAny_mono h (fun o s₁ h₁=>wpAny_mono h₁ (fun i s₂ h₂=>?_) fun _ _ x=>x) fun _ _ x=>x)
 obtain ⟨hT,h₂⟩:=h₂
 unfold subscriptTail
 refine wpAny_bind ?_
 rw [getitemInPython_of_ne hT.not_modules]
 refine wpAny_bind (wpAny_specialOf hT hl ?_)
 have fin:wpAny (model prog w) A (subscripted slice false o i) (fun r s₃=>wpAny (model prog w) A (letTemporaryGo value o r >>= fun _=>pure r) Q E s₃) E s₂:=by
  rw [hs o i]
  exact wpAny_operating (wpAny_mono h₂ (fun r s₃ h₃=>wpAny_bind (wpAny_letTemporaryGo (wpAny_pure h₃))) fun _ _ x=>x)
 first
  | exact wpAny_pure (wpAny_bind fin)
  | exact wpAny_bind (wpAny_pure (wpAny_bind fin))
  | exact wpAny_bind fin
theorem dict_typeIs {X:Cx}{pins:List (Addr × Obj)}{σ:St}{H:Hp}{s:Shared}{a:Addr}{y:V}{o:Option V} (I:Inv X pins σ H s) (g:DGet H a y o):s.TypeIs (.ref a) "dict":=by
 rcases g with ⟨kvs,k,e,_,_⟩ | ⟨kvs,k,b,e,_,_,_⟩
 ·obtain ⟨_,_,vs,_,dd⟩:=dk_rd I.hok e
  exact dd.typeIs
 ·obtain ⟨_,_,xs,_,dd⟩:=dt_rd I.hok e
  exact dd.typeIs
def tDGet (td ty:TE):TE:=fun σ H Q=>td σ H fun x H1=>ty σ H1 fun y H2=>∃ a v,x=.ref a∧DGet H2 a y (some v)∧Q v H2
def tDIn (ty td:TE):TE:=fun σ H Q=>ty σ H fun y H1=>td σ H1 fun x H2=>∃ a o,x=.ref a∧DGet H2 a y o∧Q (.bl o.isSome) H2
def tDNotIn (ty td:TE):TE:=fun σ H Q=>ty σ H fun y H1=>td σ H1 fun x H2=>∃ a o,x=.ref a∧DGet H2 a y o∧Q (.bl (!o.isSome)) H2
def sDPut (td ty tv:TE):TS:=fun D σ H=>tv σ H fun v H1=>td σ H1 fun x H2=>ty σ H2 fun y H3=>∃ a H4,x=.ref a∧DPut H3 a y v H4∧D.nx σ H4
section
variable {X:Cx}{o i e value:Expr}{pos pos' tpos:Pos}{td ty tv:TE}
theorem pe_dget (hu:X.A.units+1<cLine) (ho:PE X o td) (hi:PE X i ty) (hs:NoSl i):PE X (.Subscript o i pos) (tDGet td ty):=by
 intro pins s σ H Q I h
 refine subD_of PySem.F.slot_dict_getitem.lookup hs (thn (ho pins s σ H _ I h) fun u s1 ⟨x,H1,I1,rx,q1⟩=>thn (hi pins s1 σ H1 _ I1 q1) fun iv s2 ⟨y,H2,I2,ry,a,v,ex,g,q2⟩=>?_)
 subst ex
 obtain rfl:u=Value.ref a:=rx
 exact ⟨dict_typeIs I2 g,d_getItem hu I2 g ry fun w' s3 I3 rw'=>⟨v,H2,I3,rw',q2⟩⟩
theorem pc_din (hu:X.A.units+1<cLine) (hi:PE X i ty) (ho:PE X o td):PC X .In i o (tDIn ty td):=by
 intro pins s σ H Q I h
 refine thn (hi pins s σ H _ I h) fun iv s1 ⟨y,H1,I1,ry,q1⟩=>thn (ho pins s1 σ H1 _ I1 q1) fun u s2 ⟨x,H2,I2,rx,a,ov,ex,g,q2⟩=>?_
 subst ex
 obtain rfl:u=Value.ref a:=rx
 exact d_in hu I2 g ry fun s3 I3=>⟨.bl ov.isSome,H2,I3,rfl,q2⟩
theorem pc_dnotin (hu:X.A.units+1<cLine) (hi:PE X i ty) (ho:PE X o td):PC X .NotIn i o (tDNotIn ty td):=by
 intro pins s σ H Q I h
 refine thn (hi pins s σ H _ I h) fun iv s1 ⟨y,H1,I1,ry,q1⟩=>thn (ho pins s1 σ H1 _ I1 q1) fun u s2 ⟨x,H2,I2,rx,a,ov,ex,g,q2⟩=>?_
 subst ex
 obtain rfl:u=Value.ref a:=rx
 exact d_notIn hu I2 g ry fun s3 I3=>⟨.bl (!ov.isSome),H2,I3,rfl,q2⟩
theorem ps_dput (hu:X.A.units+1<cLine) (ho:PE X o td) (hi:PE X i ty) (hv:PE X value tv) (hs:swapsWith value (some (.Subscript o i pos')) pos.line X.env=pure false) :
  PS X (.Assign [.Subscript o i pos'] value pos) (sDPut td ty tv):=by
 intro pins s σ H D I h
 refine wpAny_Assign_Subscript (thn (hv pins s σ H _ I h) fun r s1 ⟨v,H1,I1,rv,q1⟩=>thn (ho pins s1 σ H1 _ I1 q1) fun u s2 ⟨x,H2,I2,rx,q2⟩=>thn (hi pins s2 σ H2 _ I2 q2) fun iv s3 ⟨y,H3,I3,ry,a,H4,ex,g,q3⟩=>?_) hs
 subst ex
 obtain rfl:u=Value.ref a:=rx
 exact d_setItem hu I3 g ry rv fun s4 I4=>⟨σ,H4,I4,q3⟩
end
theorem dk_empty {P:Program}{w:World}{H:Hp} (h:Heap) (hb:sysModules<h.objs.size):ObjOk P w H (h.push { cls:=.type "dict",data:=.dict #[] }) h.objs.size (.dK []) :=
 ⟨Nat.zero_le _,beq_eq_false_iff_ne.mpr (Ne.symm (Nat.ne_of_lt hb)),[],.nil,Heap.DictOf.new h⟩
theorem dt_empty {P:Program}{w:World}{H:Hp} (h:Heap) (hb:sysModules<h.objs.size):ObjOk P w H (h.push { cls:=.type "dict",data:=.dict #[] }) h.objs.size (.dT []) :=
 ⟨Nat.zero_le _,beq_eq_false_iff_ne.mpr (Ne.symm (Nat.ne_of_lt hb)),[],.nil,_,#[],0,Heap.get?_push_size _ rfl,⟨rfl,rfl,rfl⟩,rfl,rfl,List.nodup_nil⟩
def tDNewK:TE:=fun _ H Q=>∀ p,H p=none→Q (.ref p) (upd H p (.dK []))
def tDNewT:TE:=fun _ H Q=>∀ p,H p=none→Q (.ref p) (upd H p (.dT []))
section
variable {X:Cx}{pos:Pos}
theorem pe_dnewK:PE X (.Dict [] [] pos) tDNewK:=fun pins s σ H Q I h =>
 wpAny_Dict_empty ⟨.ref s.heap.objs.size,_,I.laid (a:=s.heap.objs.size) (o:=.dK []) (t':=s.toks) (fun _ _ q=>Heap.get?_push_of_some _ q) (Nat.le_refl _) (dk_empty s.heap I.big),rfl,h _ (I.hok.fresh (Nat.le_refl _))⟩
theorem pe_dnewT:PE X (.Dict [] [] pos) tDNewT:=fun pins s σ H Q I h =>
 wpAny_Dict_empty ⟨.ref s.heap.objs.size,_,I.laid (a:=s.heap.objs.size) (o:=.dT []) (t':=s.toks) (fun _ _ q=>Heap.get?_push_of_some _ q) (Nat.le_refl _) (dt_empty s.heap I.big),rfl,h _ (I.hok.fresh (Nat.le_refl _))⟩
end
structure M1 (X:Cx) (o:Expr) (m:Str) (apos:Pos) (e:Expr) (cpos:Pos):Prop where
 base:attributeBase o m X.env (eval o X.env)=eval o X.env
 few:((backTo cpos (starEach [e] X.env)).all (fun x=>!x.1) && (backToKw cpos (keywordEach [] X.env)).all (fun x=>x.1.isSome)
  && decide (([e]:List Expr).length+([]:List Keyword).length+(if ([]:List Keyword).isEmpty then 0 else 1)<30))=true
 line:(apos.endLine == cpos.line)=true
 trees:backTo cpos (starEach [e] X.env)=[(false,eval e X.env)]
structure M2 (X:Cx) (o:Expr) (m:Str) (apos:Pos) (e f:Expr) (cpos:Pos):Prop where
 base:attributeBase o m X.env (eval o X.env)=eval o X.env
 few:((backTo cpos (starEach [e,f] X.env)).all (fun x=>!x.1) && (backToKw cpos (keywordEach [] X.env)).all (fun x=>x.1.isSome)
  && decide (([e,f]:List Expr).length+([]:List Keyword).length+(if ([]:List Keyword).isEmpty then 0 else 1)<30))=true
 line:(apos.endLine == cpos.line)=true
 trees:backTo cpos (starEach [e,f] X.env)=[(false,eval e X.env),(false,eval f X.env)]
def IsD (H:Hp) (a:Addr):Prop:=(∃ kvs,Rd H a (.dK kvs))∨∃ kvs,Rd H a (.dT kvs)
theorem isD_at {X:Cx}{pins:List (Addr × Obj)}{σ:St}{H:Hp}{s:Shared}{a:Addr} (I:Inv X pins σ H s) (d:IsD H a) :
  s.TypeIs (.ref a) "dict"∧(∀ b,Value.ref a=.ref b→∃ ob,s.heap.get? b=some ob∧ob.dict=none)∧(a == sysModules)=false:=by
 rcases d with ⟨kvs,e⟩ | ⟨kvs,e⟩
 ·obtain ⟨_,hd,vs,_,dd⟩:=dk_rd I.hok e
  refine ⟨dd.typeIs,fun b q=>?_,hd⟩
  cases q
  obtain ⟨ob,_,_,h1,h2,_⟩:=dd
  exact ⟨ob,h1,h2.2.1⟩
 ·obtain ⟨_,hd,xs,_,dd⟩:=dt_rd I.hok e
  refine ⟨dd.typeIs,fun b q=>?_,hd⟩
  cases q
  obtain ⟨ob,_,_,h1,h2,_⟩:=dd
  exact ⟨ob,h1,h2.2.1⟩
section
variable {X:Cx}{pins:List (Addr × Obj)}{σ:St}{H:Hp}{s:Shared}{a:Addr}{y d:V}{u r:Value}{o:Option V}{A:Around}{E:Value→Shared→Prop}
theorem d_get2 {Q:Value→Shared→Prop} (hu:A.units+1<cLine) (I:Inv X pins σ H s) (g:DGet H a y o) (ry:RelV y u) (rd:RelV d r) (h:∀ w' s',Inv X pins σ H s'→RelV (o.getD d) w'→Q w' s') :
  wpAny (model X.prog X.w) A (call (.builtin "dict.get") [.ref a,u,r]) Q E s:=by
 rcases g with ⟨kvs,k,e,ey,l⟩ | ⟨kvs,k,b,e,ey,eb,l⟩
 ·subst ey
  obtain ⟨z,hd,vs,rel,dd⟩:=dk_rd I.hok e
  refine call_meetsIn PySem.F.slot_dict_get dd.typeIs PySem.F.entry_dict_get (PySem.F.args_dict_get_3 _ _ _) (meets_dict_get_default (mixKind X.prog X.w) a (kV_is ry) hd r) ⟨_,dd.mapOf,h _ _ (I.tok _) ?_⟩
  rw [l]
  exact (rel.val k).getD rd
 ·subst ey
  cases (show u=Value.ref b from ry)
  obtain ⟨z,hd,xs,rel,dd⟩:=dt_rd I.hok e
  refine call_meetsIn PySem.F.slot_dict_get dd.typeIs PySem.F.entry_dict_get (PySem.F.args_dict_get_3 _ _ _) (meetsH_dict_get_default (tupleKind (mixKind X.prog X.w)) a b hd r) ⟨tupleKind_room_in1 hu,k,xs,key_of I.hok eb,dd,h _ _ (I.tok _) ?_⟩
  rw [l]
  exact (rel.val k).getD rd
end
def tDGet2 (td ty tx:TE):TE:=fun σ H Q=>td σ H fun x H1=>∃ a,x=.ref a∧IsD H1 a∧ty σ H1 fun y H2=>tx σ H2 fun z H3=>∃ o,DGet H3 a y o∧Q (o.getD z) H3
def tDPop1 (td ty:TE):TE:=fun σ H Q=>td σ H fun x H1=>∃ a,x=.ref a∧IsD H1 a∧ty σ H1 fun y H2=>∃ kvs k v,H2 a=some (.dK kvs)∧y=kV k∧valV kvs k=some v∧Q v (upd H2 a (.dK (dropK kvs k)))
section
variable {X:Cx}{o e f:Expr}{apos cpos:Pos}{td ty tx:TE}
theorem pe_dget2 (hu:X.A.units+1<cLine) (ho:PE X o td) (he:PE X e ty) (hf:PE X f tx) (m:M2 X o "get" apos e f cpos):PE X (.Call (.Attribute o "get" apos) [e,f] [] cpos) (tDGet2 td ty tx):=by
 intro pins s σ H Q I h
 refine wpAny_Call_method m.base m.few m.line PySem.F.plainAttrs_dict PySem.F.slot_dict_get PySem.F.type_dict_get (thn (ho pins s σ H _ I h) fun u s1 ⟨x,H1,I1,rx,a,ex,d,q1⟩=>?_)
 subst ex
 obtain rfl:u=Value.ref a:=rx
 obtain ⟨t1,t2,_⟩:=isD_at I1 d
 refine ⟨t1,t2,?_⟩
 rw [m.trees]
 refine Calls.callWith_builtin rfl (Calls.evalArgs_plain (Calls.spliced_cons (thn (he pins s1 σ H1 _ I1 q1) fun iv s2 ⟨y,H2,I2,ry,q2⟩ =>
  Calls.spliced_cons (thn (hf pins s2 σ H2 _ I2 q2) fun fv s3 ⟨z,H3,I3,rz,ov,g,q3⟩=>Calls.spliced_nil ?_))))
 exact d_get2 hu I3 g ry rz fun w' s4 I4 rw'=>⟨_,H3,I4,rw',q3⟩
theorem pe_dpop1 (ho:PE X o td) (he:PE X e ty) (m:M1 X o "pop" apos e cpos):PE X (.Call (.Attribute o "pop" apos) [e] [] cpos) (tDPop1 td ty):=by
 intro pins s σ H Q I h
 refine wpAny_Call_method m.base m.few m.line PySem.F.plainAttrs_dict PySem.F.slot_dict_pop PySem.F.type_dict_pop (thn (ho pins s σ H _ I h) fun u s1 ⟨x,H1,I1,rx,a,ex,d,q1⟩=>?_)
 subst ex
 obtain rfl:u=Value.ref a:=rx
 obtain ⟨t1,t2,_⟩:=isD_at I1 d
 refine ⟨t1,t2,?_⟩
 rw [m.trees]
 refine Calls.callWith_builtin rfl (Calls.evalArgs_plain (Calls.spliced_cons (thn (he pins s1 σ H1 _ I1 q1) fun iv s2 ⟨y,H2,I2,ry,kvs,k,v,ea,ey,l,q2⟩=>Calls.spliced_nil ?_)))
 subst ey
 exact d_pop I2 ea ry l (.inl rfl) fun w' s3 I3 rw'=>⟨v,_,I3,rw',q2⟩
end
end L2
namespace L2
open PySem PySem.Spec PyProof.Rows
section
variable {X:Cx}{pins:List (Addr × Obj)}{σ:St}{H:Hp}{s:Shared}{h':Heap}
theorem Inv.turnedNew {t':Nat}{ch:List Addr}{T:Addr}{ob:HO} (I:Inv X pins σ H s) (k:∀ b o,b∉ch→s.heap.get? b=some o→h'.get? b=some o) (hf:∀ b∈ch,FpOk X pins H b) (hT:s.heap.objs.size≤T)
  (new:ObjOk X.prog X.w (upd H T ob) h' T ob):Inv X pins σ (upd H T ob) { s with heap:=h',toks:=t' }:=by
 have hn:H T=none:=I.hok.fresh hT
 have nit:∀ b u,H b=some u→b∉ch:=fun b u e z=>by
  have q:=(hf b z).1
  rw [q] at e;cases e
 refine I.step (g':=s.gens) (d':=s.drawn) (ch:=ch) (fun b hb=>⟨(hf b hb).2.2.2.1,(hf b hb).2.1,(hf b hb).2.2.2.2.1,(hf b hb).2.2.2.2.2⟩) (fun b o _ _ hc e _=>k b o hc e) (fun b o _ _ hc e _=>⟨o.slots,k b o hc e⟩)
  (fun b o _ e n=>?_) (fun b o hc e=>⟨o,k b o hc e⟩) (fun b xs e=>?_) (fun b o u e=>?_) (fun b ps e=>⟨#[],?_⟩) (fun m hm=>?_) (fun b u e=>?_) I.bare
 ·rw [upd_ne (Nat.ne_of_lt (Nat.lt_of_lt_of_le (Heap.lt_size e) hT))];exact n
 ·rw [upd_ne (ne_of_none e hn)];exact e
 ·rw [upd_ne (ne_of_none e hn)];exact e
 ·rw [upd_ne (ne_of_none e hn),e];simp
 ·obtain ⟨o,es,ep,ho,r⟩:=hm
  exact ⟨o,es,ep,k _ o (fun z=>(hf _ z).2.1 rfl) ho,r⟩
 ·by_cases hb:b=T
  ·subst hb
   rw [upd_same] at e
   cases e
   exact new
  ·rw [upd_ne hb] at e
   refine (I.hok b u e).stay (fun c v hc q=>k c v ?_ q) (fun c q=>by rw [upd_ne (ne_of_none q hn)];exact q) fun c xs q=>by rw [upd_ne (ne_of_none q hn)];exact q
   rcases hc with z | z
   ·rw [z];exact nit b u e
   ·exact nit c _ z
end
section
variable {X:Cx}
theorem pi_one {tg:Expr}{pins:List (Addr × Obj)}{σ:St}{H:Hp}{s:Shared}{R:It→Hp→Prop}{J:It}{tn:Nat→Heap→Prop}{tk:Nat} (I:Inv X pins σ H s) (o:Obj)
  (T:Turn X.prog X.w X.K tg J [s.heap.objs.size] s.heap.objs.size tn) (st:tn 0 (s.heap.push o)) (q:R J H):PIE X pins σ tg R (.ref s.heap.objs.size) { s with heap:=s.heap.push o,toks:=tk }:=by
 refine ⟨s.heap.objs.size,[s.heap.objs.size],tn,J,H,rfl,I.kept fun b ob e=>Heap.get?_push_of_some _ e,T,st,fun b hb=>?_,q⟩
 have e:b=s.heap.objs.size:=by simpa using hb
 subst e
 exact I.fpOk (Nat.le_refl _) (I.hok.fresh (Nat.le_refl _))
end
def Its (x:Str):It:=⟨fun i _=>i<x.cps.size,fun i H v H'=>H'=H∧∃ c,x.cps[i]?=some c∧v=.str ⟨#[c]⟩,fun i _=>x.cps.size≤i⟩
theorem turn_str {P:Program}{w:World}{K:PySem.W.Frag}{tg:Expr} (it:Addr) (x:Str) (t:Tok) (ty:String) (hty:ty="str_ascii_iterator"∨ty="str_iterator") :
  Turn P w K tg (Its x) [it] it (fun i h=>h.IsStrIter it ty x t i) where
 mem:=by simp
 obj:=fun i h st b hb=>by
  have e:b=it:=by simpa using hb
  subst e
  obtain ⟨o,e,c,d⟩:=st
  exact ⟨o,e,fun v z=>by rw [d] at z;cases z⟩
 keep:=fun i h h' st k=>let ⟨o,ho,r⟩:=st;⟨o,k it (by simp) o ho,r⟩
 item:=by
  intro X hP hw hK hc i pins s σ H E I hf st hg
  subst hP hw hK
  obtain ⟨f0,f1,f2,f3,f4,f5⟩:=hf it (by simp)
  have W:Walks X.prog X.w X.A it [it] [it] x.cps.size (SignAt x) (fun i h=>h.IsStrIter it ty x t i):=by
   rcases hty with e | e
   ·rw [e];exact Walks.strAscii (I.ok.hd hc) it x t
   ·rw [e];exact Walks.strWide (I.ok.hd hc) it x t
  have hno:["enumerate","zip","dict_itemiterator","dict_reverseitemiterator","odict_iterator","itertools.zip_longest","itertools.pairwise"].contains ty=false:=by
   rcases hty with e | e
   ·rw [e];decide
   ·rw [e];decide
  refine W.item i s _ _ hg st fun v h' tk hv st' kk=>?_
  obtain ⟨c,u,hcx,rfl⟩:=hv
  have I1:Inv X pins σ H { s with heap:=h',toks:=tk }:=I.turned (fun b o hb e=>kk b o (by simpa using hb) e) f0 f1 f3 f4 f5
  obtain ⟨oi,e,cc,dd⟩:=id st'
  exact ⟨_,rfl,go_of (s:={ s with heap:=h',toks:=tk }) e cc dd hno ⟨.str ⟨#[c]⟩,H,I1,⟨u,rfl⟩,⟨rfl,c,hcx,rfl⟩,st',fun b hb=>(hf b hb).1⟩⟩
 done:=by
  intro X hP hw hK hc i pins s σ H E I hf st hg
  subst hP hw hK
  obtain ⟨f0,f1,f2,f3,f4,f5⟩:=hf it (by simp)
  have hx:x.cps[i]?=none:=Array.getElem?_eq_none hg
  rcases hty with e | e
  ·rw [e] at st
   exact wpAny_pyNext_ascii_end (I.ok.hd hc) st hx fun h' eb=>⟨rfl,I.turned (t':=s.toks) (fun b o hb e=>eb b o hb e) f0 f1 f3 f4 f5⟩
  ·rw [e] at st
   exact wpAny_pyNext_wide_end (I.ok.hd hc) st hx fun h' eb=>⟨rfl,I.turned (t':=s.toks) (fun b o hb e=>eb b o hb e) f0 f1 f3 f4 f5⟩
 self:=fun A i s Q E st h=>by
  rcases hty with e | e
  ·rw [e] at st;exact wpAny_pyIter_striter_ascii st h
  ·rw [e] at st;exact wpAny_pyIter_striter_wide st h
def iStr (te:TE):TI:=fun σ H R=>te σ H fun v H1=>∃ x,v=.str x∧R (Its x) H1
theorem pi_str {X:Cx}{tg e:Expr}{te:TE} (he:PE X e te):PI X tg e (iStr te):=by
 intro pins s σ H R I h
 refine thn (he pins s σ H _ I h) fun v s1 ⟨y,H1,I1,r1,x,ex,q⟩=>?_
 subst ex
 obtain ⟨t,rfl⟩:=r1
 cases ha:x.cps.all (·<128)
 ·exact wpAny_pyIter_wide ha (pi_one (tk:=s1.toks) I1 _ (turn_str _ x t "str_iterator" (.inr rfl)) ⟨_,Heap.get?_push_size _ rfl,rfl,rfl⟩ q)
 ·exact wpAny_pyIter_ascii ha (pi_one (tk:=s1.toks) I1 _ (turn_str _ x t "str_ascii_iterator" (.inl rfl)) ⟨_,Heap.get?_push_size _ rfl,rfl,rfl⟩ q)
def Ite (K:PySem.W.Frag) (a:Addr):It :=
 ⟨fun i H=>∃ (xs:List V) (x:V),SqL K H a xs∧xs[i]?=some x,fun i H v H'=>∃ T x,v=.ref T∧H T=none∧H'=upd H T (.tup [.int (i:Nat),x])∧∀ xs,SqL K H a xs→xs[i]?=some x,fun i H=>∃ xs:List V,SqL K H a xs∧xs.length≤i⟩
theorem turn_enum {P:Program}{w:World}{K:PySem.W.Frag}{elts:List Expr}{kk:Nat}{tpos:Pos} (a e it:Addr) :
  Turn P w K (.Tuple elts kk tpos) (Ite K a) [e,it] e (fun i h=>(∃ old,IsEnum h e it ((i:Nat):Int) old)∧h.IsListIter it a i∧e≠it) where
 mem:=by simp
 obj:=fun i h st b hb=>by
  obtain ⟨⟨old,he⟩,⟨o,ho,hc,hd⟩,_⟩:=st
  have e':b=e∨b=it:=by simpa using hb
  rcases e' with z | z
  ·rw [z];exact ⟨_,he,fun v q=>nomatch q⟩
  ·rw [z];exact ⟨o,ho,fun v q=>by rw [hd] at q;cases q⟩
 keep:=fun i h h' st k=>let ⟨⟨old,he⟩,hi,hne⟩:=st;⟨⟨old,k e (by simp) _ he⟩,hi.at fun o q=>k it (by simp) o q,hne⟩
 item:=by
  intro X hP hw hK hc i pins s σ H E I hf st hg
  subst hP hw hK
  obtain ⟨⟨old,he⟩,hit,hne⟩:=st
  obtain ⟨xs,x,hq,hx⟩:=hg
  obtain ⟨its,rv,p,hz⟩:=I.list hq
  obtain ⟨u,hu,ru⟩:=rv.get hx
  have hel:e<s.heap.objs.size:=Heap.lt_size he
  have hil:it<s.heap.objs.size:=by obtain ⟨_,q,_⟩:=hit;exact Heap.lt_size q
  refine wpAny_pyNext_enum_item he hit p.isList (x:=u) (by simpa using hu) hne fun h' ho hit' hT hsz hk=>?_
  refine ⟨_,rfl,wpAny_letOwnedTupleGo_enum (s:={ s with heap:=h',toks:=s.toks+1 }) ho fun h'' he' sb=>?_⟩
  have hT2:h''.get? s.heap.objs.size=some { cls:=.type "tuple",data:=.seq #[.int i s.toks,u] }:=(sb.2 _ (Nat.ne_of_gt hel)).trans hT
  have new:ObjOk X.prog X.w (upd H s.heap.objs.size (.tup [.int (i:Nat),x])) h'' s.heap.objs.size (.tup [.int (i:Nat),x]) :=
   ⟨by show 2≤sizeLine;decide,[.int i s.toks,u],.cons ⟨_,rfl⟩ (.cons ru .nil),⟨_,hT2,rfl,_,rfl⟩⟩
  have I1:Inv X pins σ (upd H s.heap.objs.size (.tup [.int (i:Nat),x])) { s with heap:=h'',toks:=s.toks+1 } :=
   I.turnedNew (ch:=[e,it]) (fun b ob hb q=>(sb.2 b (fun z=>hb (by simp [z]))).trans (hk b ob (fun z=>hb (by simp [z])) (fun z=>hb (by simp [z])) q)) hf (Nat.le_refl _) new
  refine ⟨.ref s.heap.objs.size,_,I1,rfl,⟨_,x,rfl,I.hok.fresh (Nat.le_refl _),rfl,fun ys hy=>by rw [I.list_inj hy hq];exact hx⟩,⟨⟨u,?_⟩,hit'.at fun o q=>(sb.2 it (Ne.symm hne)).trans q,hne⟩,fun b hb=>?_⟩
  ·have e1:((i+1:Nat):Int)=(i:Int)+1:=by omega
   rw [e1];exact he'
  ·have hb':b<s.heap.objs.size:=by
    have e':b=e∨b=it:=by simpa using hb
    rcases e' with z | z
    ·rw [z];exact hel
    ·rw [z];exact hil
   rw [upd_ne (Nat.ne_of_lt hb')]
   exact (hf b hb).1
 done:=by
  intro X hP hw hK hc i pins s σ H E I hf st hg
  subst hP hw hK
  obtain ⟨⟨old,he⟩,hit,hne⟩:=st
  obtain ⟨xs,hq,hx⟩:=hg
  obtain ⟨its,rv,p,hz⟩:=I.list hq
  obtain ⟨f0,f1,f2,f3,f4,f5⟩:=hf it (by simp)
  have hl:=rv.length
  exact wpAny_pyNext_enum_end (I.ok.hd hc) he hit p.isList (by simp;omega) fun h' eb=>⟨rfl,I.turned (t':=s.toks) (fun b o hb q=>eb b o hb q) f0 f1 f3 f4 f5⟩
 self:=fun A i s Q E st h=>let ⟨⟨_,he⟩,_⟩:=st;wpAny_pyIter_enum he h
def iEnum (K:PySem.W.Frag) (ta:TA):TI:=fun σ H R=>ta σ H fun vs H1=>∃ a xs,vs=[.ref a]∧SqL K H1 a xs∧R (Ite K a) H1
theorem pi_enum {X:Cx}{e:Expr}{ta:TA}{p pos tpos:Pos}{elts:List Expr}{kk:Nat} (hg:Gl X "enumerate") (hm:X.mg "enumerate"=none) (ha:PA X [e] ta) (hs:starEach [e] X.env=[(false,eval e X.env)]:=by rfl) :
  PI X (.Tuple elts kk tpos) (.Call (.Name "enumerate" p) [e] [] pos) (iEnum X.K ta):=by
 intro pins s σ H R I h
 refine Call_ (ld_blt I hg hm boot_enumerate (PyProof.Rows.callWith_type1 (thn (ha pos pins s σ H _ I h) fun us s1 ⟨vs,H1,I1,r1,q1⟩=>?_) hs rfl))
 obtain ⟨a,xs,ex,hq,q⟩:=q1
 subst ex
 cases r1 with
 | cons r rr =>
  cases rr
  cases r
  obtain ⟨its,rv,p',hz⟩:=I1.list hq
  refine call_enumerate_list p'.isList fun h' he hit hsz hk=>wpAny_pyIter_enum he ?_
  have I2:Inv X pins σ H1 { s1 with heap:=h' }:=I1.kept (t':=s1.toks) hk
  refine ⟨s1.heap.objs.size+1,[s1.heap.objs.size+1,s1.heap.objs.size],_,_,H1,rfl,I2,turn_enum a (s1.heap.objs.size+1) s1.heap.objs.size,⟨⟨.none,he⟩,hit,Nat.succ_ne_self _⟩,fun b hb=>?_,q⟩
  have e':b=s1.heap.objs.size+1∨b=s1.heap.objs.size:=by simpa using hb
  have hle:s1.heap.objs.size≤b:=by
   rcases e' with z | z
   ·rw [z];exact Nat.le_add_right _ _
   ·rw [z];exact Nat.le_refl _
  exact I1.fpOk hle (I1.hok.fresh hle)
theorem boot_zip5:bootBuiltins "zip"=some (.type "zip"):=by decide +kernel
end L2
section
namespace TL
open PySem PySem.Builtin PySem.Builtin.Str PySem.StrLaws
abbrev tl (x:Str):List Nat:=x.cps.toList
theorem len_tl (x:Str):x.length=(tl x).length:=by simp [tl,Str.length]
theorem tl_append (x y:Str):tl (x++y)=tl x++tl y:=by
 show (x++y).cps.toList=_
 rw [Str.cps_append,Array.toList_append]
def joinL (S:List Nat):List (List Nat)→List Nat
 | []=>[]
 | [p]=>p
 | p::q::r=>p++(S++joinL S (q::r))
theorem tl_join (y:Str):∀ parts:List Str,tl (Str.join y parts)=joinL (tl y) (parts.map tl)
 | []=>rfl
 | [_]=>rfl
 | x::z::r=>by
  show tl (x++y++Str.join y (z::r))=tl x++(tl y++joinL (tl y) ((z::r).map tl))
  rw [tl_append,tl_append,tl_join y (z::r),List.append_assoc]
theorem join_eq (y:Str) (parts:List Str):Txt.join y parts=Str.join y parts:=glued_eq_join y parts
end TL
end
namespace L2
open PySem PySem.Spec PyProof.Rows
theorem strs_of_vals:∀ {ys:List Str}{us:List Value},Vals (ys.map V.str) us→StrsAre us ys
 | [],_,.nil=>.nil
 | y::ys,_,.cons r t=>by
  obtain ⟨k,rfl⟩:=r
  exact .cons y k (strs_of_vals t)
section
variable {X:Cx}
theorem mt_join:MtR X "str.join" (fun x xs H Q=>∃ a p,∃ ys:List Str,x=.str a∧xs=[.ref p]∧(SqL X.K H p (ys.map V.str)∨SqT X.K H p (ys.map V.str)) ∧
  (ys.map (·.length)).sum+ys.length * a.length≤16777216∧Q (.str (Txt.join a ys)) H):=by
 intro pins s σ H x xs v us Q I rx rs h
 obtain ⟨a,p,ys,rfl,rfl,hp,hz,h⟩:=h
 obtain ⟨t,rfl⟩:=rx
 cases rs with
 | cons r1 rs =>
  cases rs
  cases r1
  rcases hp with hp | hp
  ·obtain ⟨its,r,⟨o,n,ho,hc,_,hd⟩,_⟩:=I.list hp
   exact PyProof.Rows.join_list (items:=its.toArray) ⟨o,ho,hc,n,hd⟩ (by rw [List.toList_toArray];exact strs_of_vals r) hz fun t' k=>⟨.str _,H,I.tok k,⟨t',rfl⟩,h⟩
  ·obtain ⟨its,r,ht,_⟩:=I.tuple hp
   exact PyProof.Rows.join_tuple (items:=its.toArray) ht (by rw [List.toList_toArray];exact strs_of_vals r) hz fun t' k=>⟨.str _,H,I.tok k,⟨t',rfl⟩,h⟩
end
section
variable {X:Cx}{o e:Expr}{to te:TE}
def tM1 (r:V→List V→Hp→VK→Prop) (to te:TE):TE:=fun σ H Q=>to σ H fun x H1=>(∃ a,x=.str a)∧te σ H1 fun y H2=>r x [y] H2 Q
theorem pe_m1 {id:String}{name:Str}{apos pos:Pos}{r:V→List V→Hp→VK→Prop} (slot:Slot "str" name id) (ty:typeOf (.builtin id)=pure (.type "method_descriptor")) (rule:MtR X id r) (ho:PE X o to) (he:PE X e te)
  (hs:starEach [e] X.env=[(false,eval e X.env)]:=by rfl) (hbase:attributeBase o name X.env (eval o X.env)=eval o X.env:=by rfl) (hline:(apos.endLine == pos.line)=true:=by rfl) :
  PE X (.Call (.Attribute o name apos) [e] [] pos) (tM1 r to te):=by
 intro pins s σ H Q I h
 refine PySem.Call_method1 hbase hs hline (thn (ho pins s σ H _ I h) fun v s1 ⟨x,H1,I1,r1,q1⟩=>?_)
 obtain ⟨⟨a,rfl⟩,q1⟩:=q1
 obtain ⟨t,rfl⟩:=_root_.id r1
 refine ⟨"str",_,F.plainAttrs_str,slot,ty,typeIs_str _ _ _,(fun _ e=>nomatch e),Calls.callWith_builtin rfl (Calls.evalArgs_plain (Calls.spliced_cons ?_))⟩
 exact thn (he pins s1 σ H1 _ I1 q1) fun u s2 ⟨y,H2,I2,r2,q2⟩=>Calls.spliced_nil (rule pins s2 σ H2 _ [y] _ [u] Q I2 r1 (.cons r2 .nil) q2)
theorem pe_join {apos pos:Pos} (ho:PE X o to) (he:PE X e te) (hs:starEach [e] X.env=[(false,eval e X.env)]:=by rfl) (hbase:attributeBase o "join" X.env (eval o X.env)=eval o X.env:=by rfl) (hline:(apos.endLine == pos.line)=true:=by rfl) :
  PE X (.Call (.Attribute o "join" apos) [e] [] pos) (tM1 (fun x xs H Q=>∃ a p,∃ ys:List Str,x=.str a∧xs=[.ref p]∧(SqL X.K H p (ys.map V.str)∨SqT X.K H p (ys.map V.str)) ∧
   (ys.map (·.length)).sum+ys.length * a.length≤16777216∧Q (.str (Txt.join a ys)) H) to te) :=
 pe_m1 F.slot_str_join F.type_str_join mt_join ho he hs hbase hline
end
end L2
namespace Att
open PySem PySem.W PySem.Calls PyProof.Rows
theorem ints_of_wellAll {P:Params}{h:Heap}:∀ (ns:List Int) (vs:List Value),WellAll P h vs (ns.map WData.int)→IntsAre vs ns:=by
 intro ns
 induction ns with
 | nil =>
  intro vs w
  rw [List.map_nil] at w
  cases w
  exact .nil
 | cons n ns ih =>
  intro vs w
  rw [List.map_cons] at w
  cases w with
  | cons a b =>
   cases a
   exact .cons _ _ (ih _ b)
end Att
namespace L2
open PySem PySem.Spec PyProof.Rows
theorem vals_ints:∀ {vs:List Value}{ns:List Int},IntsAre vs ns→Vals (ns.map V.int) vs
 | _,_,.nil=>.nil
 | _,_,.cons n t h=>.cons ⟨t,rfl⟩ (vals_ints h)
end L2
namespace L2
open PySem PySem.Spec PyProof.Rows
def inClass (s:Stmt) (j:Nat):Stmt:=match s with
 | .ClassDef _ _ _ body _ _ _ _ _ _ _=>body.getD j (.Pass ⟨0,0,0,0⟩)
 | _=>.Pass ⟨0,0,0,0⟩
def defArgs (s:Stmt):Arguments:=match s with
 | .FunctionDef _ a _ _ _ _ _ _ _ _=>a
 | _=>{ posonlyargs:=[],args:=[],vararg:=none,kwonlyargs:=[],kw_defaults:=[],kwarg:=none,defaults:=[] }
def defBody (s:Stmt):List Stmt:=match s with
 | .FunctionDef _ _ b _ _ _ _ _ _ _=>b
 | _=>[]
def defScope (s:Stmt):Scope:=match s with
 | .FunctionDef _ _ _ _ _ _ sc _ _ _=>sc
 | _=>{ kind:=.function,names:=[],isGenerator:=false,isCoroutine:=false }
abbrev CX0:CXT:=fun _ _ _ _ _ _=>False
abbrev E0:XK:=fun _ _ _=>False
theorem pass0 {X:Cx}:Passes CX0 X E0:=fun _ _ _ _ _ _ _ h=>h.elim
structure Fun (K:PySem.W.Frag) (x qual:Str) (st:Stmt) (f:Addr) (fd:FuncData):Prop where
 ex:∃ (oc:Value) (od:Option Addr) (kV doc pm:Value) (an:Option Addr) (cdv ct:Value) (osl:Array (Option Value)),
  fd=PySem.W.fnOf x qual (defArgs st) (defBody st) (defScope st) .none kV doc pm an cdv ct∧K.lookup f=some ⟨oc,od,.func fd,osl⟩∧PySem.W.codeIn K cdv qual=true
 kp:PySem.W.keepIn K (.ref f)=true
section
variable {P:Program}{w:World}{K:PySem.W.Frag}{mg:Str→Option Value}{base:Heap}
theorem Fun.ok {x qual:Str}{st:Stmt}{f:Addr}{fd:FuncData}{N ps:List Str}{k:Nat}{sp:Sp} (F:Fun K x qual st f fd) (S:FnScope N ps (defScope st)) (len:∀ vs H Q E,sp vs H Q E→vs.length=ps.length)
  (hbody:∀ (cdv:Value) (A:Around) (outer:List Env) (s:Shared) (H:Hp) (vs:List V) (Q:VK) (E:XK),Room k (A.deeper (envOfC qual (defScope st) s.heap.objs.size f cdv))→sp vs H Q E →
   ∃ t,PSs (cxOf CX0 P w K mg base N qual (defScope st) f cdv A outer s H E).nox (defBody st) t∧t { nx:=fun _ H'=>Q .non H',rt:=Q } (start N vs) H):FnOk P w K mg base CX0 (k+1) f fd ps sp:=by
 obtain ⟨oc,od,kV,doc,pm,an,cdv,ct,osl,rfl,lk,hcd⟩:=F.ex
 refine fn_of lk hcd S len fun A outer s H vs Q E hr hsp=>?_
 obtain ⟨t,h,q⟩:=hbody cdv A outer s H vs Q E hr hsp
 exact ⟨t,h.nox,q⟩
theorem Fun.binds {x qual:Str}{st:Stmt}{f:Addr}{fd:FuncData}{ps:List Str} (F:Fun K x qual st f fd)
  (h:∀ (kV doc pm:Value) (an:Option Addr) (cdv ct:Value) (us:List Value),us.length=ps.length→bindArgs (PySem.W.fnOf x qual (defArgs st) (defBody st) (defScope st) .none kV doc pm an cdv ct) ⟨us,[]⟩=pure (ps.zip us)):Binds K fd ps []:=by
 obtain ⟨oc,od,kV,doc,pm,an,cdv,ct,osl,rfl,lk,hcd⟩:=F.ex
 exact .all (h kV doc pm an cdv ct)
theorem fun_mk {x qual:Str}{st:Stmt}{f:Addr}{oc:Value}{od an:Option Addr}{osl:Array (Option Value)}{kV doc pm cdv ct:Value} (l:K.lookup f=some ⟨oc,od,.func (PySem.W.fnOf x qual (defArgs st) (defBody st) (defScope st) .none kV doc pm an cdv ct),osl⟩)
  (c:PySem.W.codeIn K cdv qual=true) (k:PySem.W.keepIn K (.ref f)=true):Fun K x qual st f (PySem.W.fnOf x qual (defArgs st) (defBody st) (defScope st) .none kV doc pm an cdv ct):=⟨⟨oc,od,kV,doc,pm,an,cdv,ct,osl,rfl,l,c⟩,k⟩
end
theorem hu_of {A:Around}{k:Nat} (hr:Room k A):A.units+1<cLine:=Nat.lt_of_le_of_lt (Nat.add_le_add_left (by decide:1≤64) _) hr.units
section
variable {X:Cx}
theorem pv (i:Nat) {x:Str}{pos:Pos} (hN:X.N[i]?=some x:=by rfl) (hv:Vis X.env.scope x:=by first | exact Or.inl rfl | exact Or.inr (Or.inl rfl) | exact Or.inr (Or.inr rfl)) (hd:(x == ("__debug__":Str))=false:=by decide)
  (hcd:(x == ("__classdict__":Str))=false:=by decide):PE X (.Name x pos) (tVar i):=pe_var hN hv hd hcd
end
theorem iteF {A B:Prop} (h:B):if false=true then A else B:=by
 rw [if_neg Bool.false_ne_true]
 exact h
theorem iteT {A B:Prop} (h:A):if true=true then A else B:=by
 rw [if_pos rfl]
 exact h
theorem ite2 {c A B:Prop} [Decidable c] (h1:c→A) (h2:¬ c→B):if c then A else B:=by
 by_cases h:c
 ·rw [if_pos h]
  exact h1 h
 ·rw [if_neg h]
  exact h2 h
section
variable {κ:Type} [DecidableEq κ]
theorem valV_not {kvs:List (κ × V)}{k:κ} (h:valV kvs k=none):¬ k∈kvs.map (·.1):=by
 intro m
 obtain ⟨p,hp,e⟩:=List.mem_map.mp m
 have q:(kvs.any fun kv=>decide (kv.1=k))=true:=List.any_eq_true.mpr ⟨p,hp,decide_eq_true e⟩
 rw [valV_any,h] at q
 exact absurd q (by simp)
theorem valV_in {kvs:List (κ × V)}{k:κ}{v:V} (h:valV kvs k=some v):k∈kvs.map (·.1):=by
 have q:(kvs.any fun kv=>decide (kv.1=k))=true:=by
  rw [valV_any,h]
  all_goals rfl
 obtain ⟨p,hp,e⟩:=List.any_eq_true.mp q
 exact List.mem_map.mpr ⟨p,hp,of_decide_eq_true e⟩
theorem nd_snoc:∀ {l:List κ}{k:κ},l.Nodup→¬ k∈l→(l++[k]).Nodup
 | [],k,_,_=>by simp
 | a::r,k,h,hk=>by
  obtain ⟨h1,h2⟩:=List.nodup_cons.mp h
  show (a::(r++[k])).Nodup
  refine List.nodup_cons.mpr ⟨fun m=>?_,nd_snoc h2 fun m=>hk (List.mem_cons.mpr (Or.inr m))⟩
  rcases List.mem_append.mp m with q | q
  ·exact h1 q
  ·exact hk (List.mem_cons.mpr (Or.inl (List.mem_singleton.mp q).symm))
theorem nd_putK {kvs:List (κ × V)}{k:κ} (v:V) (hn:(kvs.map (·.1)).Nodup) (h:valV kvs k=none):((putK kvs k v).map (·.1)).Nodup:=by
 rw [putK_new v h,List.map_append]
 exact nd_snoc hn (valV_not h)
theorem dropK_pos {p:κ × V}{r:List (κ × V)}{k:κ} (e:p.1=k):dropK (p::r) k=dropK r k:=by
 unfold dropK
 rw [List.filter_cons,if_neg (by simp [e])]
theorem dropK_neg {p:κ × V}{r:List (κ × V)}{k:κ} (e:¬ p.1=k):dropK (p::r) k=p::dropK r k:=by
 unfold dropK
 rw [List.filter_cons,if_pos (by simp [e])]
theorem dropK_no:∀ {kvs:List (κ × V)}{k:κ},¬ k∈kvs.map (·.1)→dropK kvs k=kvs
 | [],_,_=>rfl
 | p::r,k,h=>by
  have h':¬ k∈r.map (·.1):=fun m=>by
   obtain ⟨q,hq,e⟩:=List.mem_map.mp m
   exact h (List.mem_map.mpr ⟨q,List.mem_cons.mpr (Or.inr hq),e⟩)
  rw [dropK_neg fun e=>h (List.mem_map.mpr ⟨p,List.mem_cons.mpr (Or.inl rfl),e⟩),dropK_no h']
theorem dropK_mem {kvs:List (κ × V)}{k:κ}{p:κ × V} (h:p∈dropK kvs k):p∈kvs:=(List.mem_filter.mp h).1
theorem nd_dropK:∀ {kvs:List (κ × V)}{k:κ},(kvs.map (·.1)).Nodup→((dropK kvs k).map (·.1)).Nodup
 | [],_,_=>List.nodup_nil
 | p::r,k,h=>by
  have h:(p.1::r.map (·.1)).Nodup:=h
  obtain ⟨h1,h2⟩:=List.nodup_cons.mp h
  by_cases e:p.1=k
  ·rw [dropK_pos e]
   exact nd_dropK h2
  ·rw [dropK_neg e]
   show (p.1::(dropK r k).map (·.1)).Nodup
   refine List.nodup_cons.mpr ⟨fun m=>h1 ?_,nd_dropK h2⟩
   obtain ⟨q,hq,eq⟩:=List.mem_map.mp m
   exact List.mem_map.mpr ⟨q,dropK_mem hq,eq⟩
theorem dropK_len:∀ {kvs:List (κ × V)}{k:κ},(kvs.map (·.1)).Nodup→k∈kvs.map (·.1)→(dropK kvs k).length+1=kvs.length
 | [],_,_,m=>by simp at m
 | p::r,k,h,m=>by
  have h:(p.1::r.map (·.1)).Nodup:=h
  have m:k=p.1∨k∈r.map (·.1):=List.mem_cons.mp m
  obtain ⟨h1,h2⟩:=List.nodup_cons.mp h
  by_cases e:p.1=k
  ·subst e
   rw [dropK_pos rfl,dropK_no h1]
   all_goals rfl
  ·have m':k∈r.map (·.1):=m.resolve_left fun z=>e z.symm
   have q:=dropK_len h2 m'
   rw [dropK_neg e,List.length_cons,List.length_cons]
   omega
end
theorem at_of {xs:List V}{z:Int}{j:Nat}{v:V} (e:z=(j:Int)) (h:xs[j]?=some v):atI xs z=some v:=by
 rw [e]
 exact atI_nat h
theorem nd_ix {α:Type}{l:List α} (hN:l.Nodup) {i j:Nat}{x:α} (a:l[i]?=some x) (b:l[j]?=some x):i=j:=by
 obtain ⟨h1,e1⟩:=List.getElem?_eq_some_iff.mp a
 obtain ⟨h2,e2⟩:=List.getElem?_eq_some_iff.mp b
 exact (List.getElem_inj hN).mp (e1.trans e2.symm)
end L2
namespace L2
open PySem PySem.Spec PyProof.Rows
abbrev mkSpec (P:Program) (name:Str) (l m:Nat) (lo hi:Int) (l2 m2:Nat) (lo2 hi2:Int) (asked:List Int→Bool) (f:List Int→List Int):PySem.W.OpenSpec :=
 ⟨P,name,[.list l m (.int lo hi)],.list l2 m2 (.int lo2 hi2),asked,f⟩
theorem spec_pre {P:Program}{name:Str}{l m:Nat}{lo hi:Int}{l2 m2:Nat}{lo2 hi2:Int}{asked:List Int→Bool}{f:List Int→List Int}{args:List PySem.W.WData}
  (h:(mkSpec P name l m lo hi l2 m2 lo2 hi2 asked f).pre args=true) :
  ∃ ns:List Int,args=[PySem.W.WData.list (ns.map PySem.W.WData.int)]∧PySem.W.Codec.decAll [.list l m (.int lo hi)] args=some (ns,())∧asked ns=true∧ns.length≤m∧∀ x∈ns,lo≤x∧x≤hi:=by
 obtain ⟨⟨ns,u⟩,e,h2⟩:=PySem.W.os_pre_some h
 have q:=PySem.W.Codec.encAll_of_decAll [.list l m (.int lo hi)] args (ns,u) e
 have hb:=PySem.W.Codec.and_of (show (PySem.W.Codec.inList l m (PySem.W.Codec.inInt lo hi) ns && true)=true from q.2)
 have hb2:=PySem.W.Codec.and_of (show (PySem.W.Codec.inNat l m ns.length && ns.all (PySem.W.Codec.inInt lo hi))=true from hb.1)
 exact ⟨ns,q.1,e,h2,(PySem.W.Codec.inNat_iff.mp hb2.1).2,fun x hx=>PySem.W.Codec.inInt_iff.mp (List.all_eq_true.mp hb2.2 x hx)⟩
theorem reads_ints {R:PySem.W.WRecords}{cl:Str→Option Addr}{h:Heap}:∀ {ys:List Int}{us:List Value},Vals (ys.map V.int) us→PySem.W.ReadsAllW R cl h us (ys.map PySem.W.WData.int) []
 | [],_,r=>by
  cases r
  exact .nil
 | y::ys,_,r=>by
  cases r with
  | cons a b =>
   obtain ⟨t,rfl⟩:=a
   exact .cons (as:=[]) (bs:=[]) (.int _ _) (reads_ints b)
end L2
namespace Bk
open PySem L2
theorem fz_get:∀ {ks:List Str}{vs:List V}{f:Str}{i:Nat}{v:V},ks.findIdx? (fun k=>k == f)=some i→vs[i]?=some v→(ks.zip vs).lookup f=some v
 | [],_,_,_,_,h,_=>by simp at h
 | k::ks,[],_,i,_,h,hv=>by simp at hv
 | k::ks,w::vs,f,i,v,h,hv=>by
  rw [List.findIdx?_cons] at h
  show List.lookup f ((k,w)::ks.zip vs)=some v
  by_cases e:(k == f)=true
  ·rw [if_pos e] at h
   have e0:0=i:=Option.some.inj h
   subst e0
   have e1:(f == k)=true:=beq_iff_eq.mpr (beq_iff_eq.mp e).symm
   rw [List.lookup_cons,e1]
   exact hv
  ·rw [if_neg e] at h
   have e1:(f == k)=false:=by
    cases q:(f == k) with
    | false=>rfl
    | true=>exact absurd (beq_iff_eq.mpr (beq_iff_eq.mp q).symm) e
   rw [List.lookup_cons,e1]
   cases i with
   | zero =>
    cases q:List.findIdx? (fun k=>k == f) ks with
    | none=>rw [q] at h;cases h
    | some j=>rw [q] at h;cases h
   | succ j =>
    have h':List.findIdx? (fun k=>k == f) ks=some j:=by
     cases q:List.findIdx? (fun k=>k == f) ks with
     | none=>rw [q] at h;cases h
     | some j'=>rw [q] at h;exact congrArg some (Nat.succ.inj (Option.some.inj h))
    exact fz_get h' (by simpa using hv)
theorem fz_no:∀ {ks:List Str}{vs:List V}{f:Str},ks.contains f=false→(ks.zip vs).lookup f=none
 | [],_,_,_=>rfl
 | _::_,[],_,_=>rfl
 | k::ks,w::vs,f,h=>by
  rw [List.contains_cons,Bool.or_eq_false_iff] at h
  show List.lookup f ((k,w)::ks.zip vs)=none
  rw [List.lookup_cons,h.1]
  exact fz_no h.2
theorem fz_put:∀ {ks:List Str}{vs:List V}{f:Str}{i:Nat} (v:V),ks.findIdx? (fun k=>k == f)=some i→ks.length=vs.length→putF f v (ks.zip vs)=ks.zip (vs.set i v)
 | [],_,_,_,_,h,_=>by simp at h
 | k::ks,[],_,i,_,h,hl=>by simp at hl
 | k::ks,w::vs,f,i,v,h,hl=>by
  rw [List.findIdx?_cons] at h
  show putF f v ((k,w)::ks.zip vs)=_
  rw [show putF f v ((k,w)::ks.zip vs)=(if k=f then (k,v)::ks.zip vs else (k,w)::putF f v (ks.zip vs)) from rfl]
  by_cases e:(k == f)=true
  ·rw [if_pos e] at h
   have e0:0=i:=Option.some.inj h
   subst e0
   rw [if_pos (beq_iff_eq.mp e)]
   rfl
  ·rw [if_neg e] at h
   rw [if_neg fun q=>e (beq_iff_eq.mpr q)]
   cases i with
   | zero =>
    cases q:List.findIdx? (fun k=>k == f) ks with
    | none=>rw [q] at h;cases h
    | some j=>rw [q] at h;cases h
   | succ j =>
    have h':List.findIdx? (fun k=>k == f) ks=some j:=by
     cases q:List.findIdx? (fun k=>k == f) ks with
     | none=>rw [q] at h;cases h
     | some j'=>rw [q] at h;exact congrArg some (Nat.succ.inj (Option.some.inj h))
    rw [fz_put v h' (by simpa using hl)]
    rfl
theorem fz_new:∀ {ks:List Str}{vs:List V}{f:Str} (v:V),ks.contains f=false→ks.length=vs.length→putF f v (ks.zip vs)=(ks++[f]).zip (vs++[v])
 | [],[],_,_,_,_=>rfl
 | [],_::_,_,_,_,hl=>by simp at hl
 | _::_,[],_,_,_,hl=>by simp at hl
 | k::ks,w::vs,f,v,h,hl=>by
  rw [List.contains_cons,Bool.or_eq_false_iff] at h
  show putF f v ((k,w)::ks.zip vs)=_
  rw [show putF f v ((k,w)::ks.zip vs)=(if k=f then (k,v)::ks.zip vs else (k,w)::putF f v (ks.zip vs)) from rfl]
  have e:¬ k=f:=fun q=>by
   have:=h.1
   rw [q,beq_self_eq_true] at this
   cases this
  rw [if_neg e,fz_new v h.2 (by simpa using hl)]
  rfl
structure Fd (K:PySem.W.Frag) (C:Addr) (ks:List Str) (f:Str) (i:Nat):Prop where
 cl:Cls K C
 no:NoAttr K C f
 ix:ks.findIdx? (fun k=>k == f)=some i
 few:ks.length<1000
abbrev Ob (H:Hp) (p C:Addr) (ks:List Str) (vs:List V):Prop:=∃ dx,H p=some (.ins C dx (ks.zip vs))
section
variable {K:PySem.W.Frag}{C p dx:Addr}{ks:List Str}{f:Str}{i:Nat}{vs:List V}{v y:V}{H:Hp}{Q:VK}
theorem rd_fld {Q:V→Prop} (T:Fd K C ks f i) (h:Ob H p C ks vs) (hv:vs[i]?=some v) (q:Q v):∃ a C dx fs v,V.ref p=.ref a∧H a=some (.ins C dx fs)∧Cls K C∧NoAttr K C f∧fs.lookup f=some v∧Q v:=by
 obtain ⟨dx,h⟩:=h
 exact ⟨p,C,dx,_,v,rfl,h,T.cl,T.no,fz_get T.ix hv,q⟩
theorem zip_len (hl:ks.length=vs.length):(ks.zip vs).length=ks.length:=by rw [List.length_zip];omega
theorem wr_fld {nx:Hp→Prop} (T:Fd K C ks f i) (h:Ob H p C ks vs) (hl:ks.length=vs.length) (q:∀ H',Ob H' p C ks (vs.set i y)→(∀ b,b≠p→H' b=H b)→nx H') :
  ∃ a C dx fs,V.ref p=.ref a∧H a=some (.ins C dx fs)∧Cls K C∧NoAttr K C f∧fs.length<1000∧nx (upd H a (.ins C dx (putF f y fs))):=by
 obtain ⟨dx,h⟩:=h
 refine ⟨p,C,dx,_,rfl,h,T.cl,T.no,by rw [zip_len hl];exact T.few,q _ ⟨dx,?_⟩ fun b hb=>upd_ne hb⟩
 rw [upd_same,fz_put y T.ix hl]
end
section
variable {K:PySem.W.Frag}{C p dx:Addr}{ks ks':List Str}{f:Str}{i:Nat}{vs:List V}{v y:V}{H:Hp}
theorem nf_fld {nx:Hp→Prop} (T:Fd K C ks' f i) (h:Ob H p C ks vs) (hl:ks.length=vs.length) (hi:ks.length=i) (hn:ks.contains f=false) (q:∀ H',Ob H' p C (ks++[f]) (vs++[y])→(∀ b,b≠p→H' b=H b)→nx H') :
  ∃ a C dx fs,V.ref p=.ref a∧H a=some (.ins C dx fs)∧Cls K C∧NoAttr K C f∧fs.length<1000∧nx (upd H a (.ins C dx (putF f y fs))):=by
 obtain ⟨dx,h⟩:=h
 have hb:i<ks'.length:=List.findIdx?_eq_some_iff_getElem.mp T.ix |>.1
 refine ⟨p,C,dx,_,rfl,h,T.cl,T.no,by rw [zip_len hl];have:=T.few;omega,q _ ⟨dx,?_⟩ fun b hb=>upd_ne hb⟩
 rw [upd_same,fz_new y hn hl]
theorem Ob.upd {o:HO}{q:Addr} (h:Ob H p C ks vs) (ne:p≠q):Ob (L2.upd H q o) p C ks vs:=by
 obtain ⟨dx,h⟩:=h
 exact ⟨dx,by rw [upd_ne ne];exact h⟩
theorem Ob.same {H':Hp} (h:Ob H p C ks vs) (e:H' p=H p):Ob H' p C ks vs:=by
 obtain ⟨dx,h⟩:=h
 exact ⟨dx,by rw [e];exact h⟩
end
theorem wl_go {W:Nat→St→Hp→Prop}{m:Nat}{D:Ends}{tb:TS}{σ:St}{H1:Hp} (h:tb { D with nx:=fun σ' H'=>∃ m',m'<m∧W m' σ' H',ct:=fun σ' H'=>∃ m',m'<m∧W m' σ' H',bk:=D.nx } σ H1) :
  ∃ N:St→Hp→Prop,(∀ σ' H',N σ' H'→∃ m',m'<m∧W m' σ' H')∧tb { D with nx:=N,ct:=N,bk:=D.nx } σ H1:=⟨_,fun _ _ h=>h,h⟩
def top (i:Nat):Stmt:=PySem.Challenge.pw_piecebook_s01_answers.main.body.getD i (.Pass ⟨0,0,0,0⟩)
end Bk
namespace Bk
open PySem PySem.Spec PyProof.Rows L2
section
variable {X:Cx}
def rInsert:V→List V→Hp→VK→Prop:=fun x vs H Q=>∃ l xs i y,∃ k:Nat,x=.ref l∧vs=[.int i,y]∧H l=some (.lst xs)∧i=(k:Int)∧k≤xs.length∧xs.length<sizeLine∧Q .non (upd H l (.lst (xs.take k++y::xs.drop k)))
theorem ins_arr (its:List Value) (k:Nat) (u:Value):((its.toArray.extract 0 k).push u++its.toArray.extract k)=(its.take k++u::its.drop k).toArray:=by
 apply Array.ext'
 simp
 exact List.take_of_length_le (by rw [List.length_drop];exact Nat.le_refl _)
theorem Vals_drop:∀ {xs:List V}{us:List Value} (n:Nat),Vals xs us→Vals (xs.drop n) (us.drop n)
 | _,_,0,h=>h
 | _,_,_+1,.nil=>.nil
 | _,_,n+1,.cons _ t=>Vals_drop n t
theorem mt_insert:MtM X "list.insert" rInsert:=by
 intro pins s σ H x vs v us Q I rx rv h
 obtain ⟨l,xs,i,y,k,rfl,rfl,hH,hi,hk,hz,q⟩:=h
 cases rx
 obtain ⟨u,u2,rfl,ru,ru2⟩:=rv.two
 obtain ⟨t,rfl⟩:=ru
 obtain ⟨z,its,n,r,hl,e⟩:=I.lstM hH
 have hsz:=sizeLine_eq
 have hf:Builtin.List.listFitsIndex i=true:=fitsIndex_both (by omega) (by omega)
 refine call_meets F.slot_list_insert ⟨_,e,rfl⟩ F.entry_list_insert (F.args_list_insert_3 _ _ _)
  (PySem.AutoSeq1.list_insert_list_int_val_1 l its.toArray n i t u2 (by rw [hf];decide) (by rw [List.size_toArray];omega)) ⟨e,?_⟩
 refine ⟨.non,_,I.lset (its':=its.take k++u2::its.drop k) hH e ?_ ((r.take k).append (.cons ru2 (Vals_drop k r))) ?_,rfl,q⟩
 ·show ((its.toArray.extract 0 (if i<0 then (i+(its.toArray.size:Int)).toNat else min i.toNat its.toArray.size)).push u2++its.toArray.extract (if i<0 then (i+(its.toArray.size:Int)).toNat else min i.toNat its.toArray.size))=_
  have ek:(if i<0 then (i+(its.toArray.size:Int)).toNat else min i.toNat its.toArray.size)=k:=by
   rw [if_neg (by omega),List.size_toArray]
   omega
  rw [ek]
  exact ins_arr its k u2
 ·rw [List.length_append,List.length_cons,List.length_take,List.length_drop]
  omega
theorem op_fdivW:OpR X (binaryOp .FloorDiv) (rI (fun _ j=>0<j∧j<18446744073709551616) fun i j=>.int (i / j)):=opI fun i j _ _ _ _ _ hc q=>by
 have h1:(0:Int)<j:=hc.1
 have h2:j<18446744073709551616:=hc.2
 refine floordiv_int (by omega) (by rw [Int.fdiv_eq_ediv_of_nonneg i (by omega)];exact q) (.inl (PyProof.noPylong_of_log2 ?_))
 have h3:j.natAbs<2 ^ 64:=by omega
 have h4:j.natAbs≠0:=by omega
 have:=(Nat.log2_lt h4).mpr h3
 omega
end
theorem valV_dropK {κ:Type} [DecidableEq κ] (k j:κ):∀ kvs:List (κ × V),valV (dropK kvs k) j=if j=k then none else valV kvs j
 | []=>by
  split<;>rfl
 | p::r=>by
  have ih:=valV_dropK k j r
  by_cases e:p.1=k
  ·rw [dropK_pos e,ih]
   by_cases h:j=k
   ·rw [if_pos h,if_pos h]
   ·rw [if_neg h,if_neg h,valV_neg (fun q=>h (q.symm.trans e))]
  ·rw [dropK_neg e]
   by_cases h:p.1=j
   ·rw [valV_pos h,valV_pos h,if_neg (fun q=>e (h.trans q))]
   ·rw [valV_neg h,valV_neg h,ih]
theorem map_eraseIdx {α β:Type} (f:α→β):∀ (l:List α) (i:Nat),(l.map f).eraseIdx i=(l.eraseIdx i).map f
 | [],_=>rfl
 | _::_,0=>rfl
 | a::l,i+1=>by rw [List.map_cons,List.eraseIdx_cons_succ,List.eraseIdx_cons_succ,List.map_cons,map_eraseIdx f l i]
end Bk
namespace Bk
open Sh28
structure IsRank (xs:List Int) (z:Int) (r:Nat):Prop where
 le:r≤xs.length
 lo:∀ (i:Nat) (x:Int),i<r→xs[i]?=some x→x<z
 hi:∀ (i:Nat) (x:Int),r≤i→xs[i]?=some x→z≤x
def Apart (a b:Piece):Prop:=a.place+max a.size 1≤b.place∨b.place+max b.size 1≤a.place
theorem hits_iff (place size:Nat) (p:Piece):hits place size p=true↔¬ (place+max size 1≤p.place∨p.place+max p.size 1≤place):=by
 unfold hits holdsByte
 simp only [Bool.or_eq_true,Bool.and_eq_true,beq_iff_eq,decide_eq_true_eq]
 omega
theorem apart_iff (a b:Piece):Apart a b↔hits a.place a.size b=false:=by
 have h:=hits_iff a.place a.size b
 unfold Apart
 cases q:hits a.place a.size b with
 | true =>
  have:=h.mp q
  simp only [Bool.true_eq_false,iff_false]
  exact this
 | false =>
  simp only [iff_true]
  refine Decidable.byContradiction fun n=>?_
  have:=h.mpr n
  rw [q] at this
  cases this
theorem Apart.symm {a b:Piece} (h:Apart a b):Apart b a:=Or.symm h
structure Places (xs:List Int) (P:List Piece):Prop where
 srt:xs.Pairwise (·<·)
 len:xs.length=P.length
 to:∀ (i:Nat) (z:Int),xs[i]?=some z→∃ q∈P,(q.place:Int)=z
 of:∀ q∈P,∃ i:Nat,xs[i]?=some (q.place:Int)
theorem srt_lt {xs:List Int} (h:xs.Pairwise (·<·)) {i j:Nat}{x y:Int} (hi:xs[i]?=some x) (hj:xs[j]?=some y) (l:i<j):x<y:=by
 obtain ⟨h1,e1⟩:=List.getElem?_eq_some_iff.mp hi
 obtain ⟨h2,e2⟩:=List.getElem?_eq_some_iff.mp hj
 have:=List.pairwise_iff_getElem.mp h i j h1 h2 l
 rw [e1,e2] at this
 exact this
theorem srt_inj {xs:List Int} (h:xs.Pairwise (·<·)) {i j:Nat}{x:Int} (hi:xs[i]?=some x) (hj:xs[j]?=some x):i=j:=by
 rcases Nat.lt_trichotomy i j with l | l | l
 ·have:=srt_lt h hi hj l;omega
 ·exact l
 ·have:=srt_lt h hj hi l;omega
abbrev Dis (P:List Piece):Prop:=P.Pairwise Apart
theorem dis_of {P:List Piece} (h:Dis P) {a b:Piece} (ha:a∈P) (hb:b∈P) (ne:a.place≠b.place):Apart a b:=by
 obtain ⟨i,h1,e1⟩:=List.getElem_of_mem ha
 obtain ⟨j,h2,e2⟩:=List.getElem_of_mem hb
 rcases Nat.lt_trichotomy i j with l | l | l
 ·have:=List.pairwise_iff_getElem.mp h i j h1 h2 l
  rw [e1,e2] at this
  exact this
 ·subst l;rw [e1] at e2;subst e2;exact absurd rfl ne
 ·have:=List.pairwise_iff_getElem.mp h j i h2 h1 l
  rw [e1,e2] at this
  exact this.symm
theorem dis_place {P:List Piece} (h:Dis P) {a b:Piece} (ha:a∈P) (hb:b∈P) (e:a.place=b.place):a=b:=by
 obtain ⟨i,h1,e1⟩:=List.getElem_of_mem ha
 obtain ⟨j,h2,e2⟩:=List.getElem_of_mem hb
 rcases Nat.lt_trichotomy i j with l | l | l
 ·have:=List.pairwise_iff_getElem.mp h i j h1 h2 l
  rw [e1,e2] at this
  unfold Apart at this;omega
 ·subst l;rw [← e1,← e2]
 ·have:=List.pairwise_iff_getElem.mp h j i h2 h1 l
  rw [e1,e2] at this
  unfold Apart at this;omega
section
variable {xs:List Int}{P:List Piece}{place size r:Nat}{lo:Int}
theorem free_no (S:Places xs P) (D:Dis P) {q:Piece} (hq:q∈P) (l:(q.place:Int)≠lo) (hl:q.place<place) (he:place<q.place+max q.size 1) :
  (P.any fun q=>decide ((q.place:Int)≠lo) && hits place size q)=true:=by
 refine List.any_eq_true.mpr ⟨q,hq,?_⟩
 rw [Bool.and_eq_true,decide_eq_true_eq]
 exact ⟨l,(hits_iff _ _ _).mpr (by omega)⟩
theorem free_yes (S:Places xs P) (D:Dis P) (R:IsRank xs (place:Int) r)
  (hlow:r=0∨xs[r - 1]?=some lo∨∃ q∈P,xs[r - 1]?=some (q.place:Int)∧q.place+max q.size 1≤place) {a:Nat}
  (ha:a=if xs[r]?=some lo then r+1 else r) :
  (P.any fun q=>decide ((q.place:Int)≠lo) && hits place size q)=!(decide (a=xs.length) || (match xs[a]? with | some z=>decide ((place:Int)+max (size:Int) 1≤z) | none=>true)):=by
 have hal:a≤xs.length:=by
  rw [ha]
  by_cases e:xs[r]?=some lo
  ·rw [if_pos e]
   have:=(List.getElem?_eq_some_iff.mp e).1
   omega
  ·rw [if_neg e];exact R.le
 have har:r≤a:=by
  rw [ha]
  split<;>omega
 have low:∀ q∈P,(q.place:Int)≠lo→q.place<place→q.place+max q.size 1≤place:=by
  intro q hq nl hl
  obtain ⟨i,hi⟩:=S.of q hq
  have hir:i<r:=by
   refine Nat.lt_of_not_le fun n=>?_
   have:=R.hi i _ n hi
   omega
  have hr1:r - 1<xs.length:=by have:=R.le;omega
  obtain ⟨z,hz⟩:∃ z,xs[r - 1]?=some z:=⟨xs[r - 1],List.getElem?_eq_getElem hr1⟩
  have hzp:=R.lo (r - 1) z (by omega) hz
  obtain ⟨u,hu,eu⟩:=S.to (r - 1) z hz
  by_cases e:i=r - 1
  ·rw [e] at hi
   rcases hlow with h0 | h0 | ⟨v,hv,ev,hve⟩
   ·omega
   ·rw [hi] at h0
    exact absurd (Option.some.inj h0) nl
   ·rw [hi] at ev
    have e2:q=v:=dis_place D hq hv (by have:=Option.some.inj ev;omega)
    rw [e2];exact hve
  ·have hlt:=srt_lt S.srt hi hz (by omega)
   have ap:=dis_of D hq hu (by omega)
   unfold Apart at ap
   omega
 cases hx:xs[a]? with
 | none =>
  have hae:a=xs.length:=by
   have:=List.getElem?_eq_none_iff.mp hx
   omega
  rw [decide_eq_true hae]
  simp only [Bool.true_or,Bool.not_true]
  refine List.any_eq_false.mpr fun q hq=>?_
  simp only [Bool.and_eq_true,decide_eq_true_eq,not_and]
  intro nl hh
  have hh:=(hits_iff _ _ _).mp hh
  obtain ⟨i,hi⟩:=S.of q hq
  have hil:=(List.getElem?_eq_some_iff.mp hi).1
  by_cases hl:q.place<place
  ·have:=low q hq nl hl
   omega
  ·-- not lower: its index is r or more,but all from a on are none;so it is r itself,the one left out
   have hri:r≤i:=by
    refine Nat.le_of_not_lt fun n=>?_
    have:=R.lo i _ n hi
    omega
   have:i=r∧xs[r]?=some lo:=by
    by_cases e:xs[r]?=some lo
    ·rw [if_pos e] at ha
     exact ⟨by omega,e⟩
    ·rw [if_neg e] at ha
     omega
   rw [this.1,this.2] at hi
   exact nl (Option.some.inj hi).symm
 | some z =>
  have hlt:=(List.getElem?_eq_some_iff.mp hx).1
  have hne:¬ a=xs.length:=by omega
  rw [decide_eq_false hne]
  simp only [Bool.false_or]
  obtain ⟨u,hu,eu⟩:=S.to a z hx
  have hzl:z≠lo:=by
   intro e
   by_cases e2:xs[r]?=some lo
   ·rw [if_pos e2] at ha
    rw [e] at hx
    have:=srt_inj S.srt hx e2
    omega
   ·rw [if_neg e2] at ha
    rw [ha,e] at hx
    exact e2 hx
  have hzp:(place:Int)≤z:=R.hi a z har hx
  by_cases hc:(place:Int)+max (size:Int) 1≤z
  ·rw [decide_eq_true hc]
   refine List.any_eq_false.mpr fun q hq=>?_
   simp only [Bool.and_eq_true,decide_eq_true_eq,not_and]
   intro nl hh
   have hh:=(hits_iff _ _ _).mp hh
   obtain ⟨i,hi⟩:=S.of q hq
   by_cases hl:q.place<place
   ·have:=low q hq nl hl
    omega
   ·have hri:r≤i:=by
     refine Nat.le_of_not_lt fun n=>?_
     have:=R.lo i _ n hi
     omega
    have hai:a≤i:=by
     by_cases e:xs[r]?=some lo
     ·rw [if_pos e] at ha
      by_cases e3:i=r
      ·rw [e3,e] at hi
       exact absurd (Option.some.inj hi).symm nl
      ·omega
     ·rw [if_neg e] at ha
      omega
    have hzi:z≤(q.place:Int):=by
     by_cases e:a=i
     ·rw [e,hi] at hx
      have:=Option.some.inj hx
      omega
     ·have:=srt_lt S.srt hx hi (by omega)
      omega
    omega
  ·rw [decide_eq_false hc]
   refine List.any_eq_true.mpr ⟨u,hu,?_⟩
   rw [Bool.and_eq_true,decide_eq_true_eq]
   exact ⟨by rw [eu];exact hzl,(hits_iff _ _ _).mpr (by omega)⟩
end
theorem rank_at {xs:List Int}{z:Int}{r i:Nat} (hs:xs.Pairwise (·<·)) (R:IsRank xs z r) (hi:xs[i]?=some z):xs[r]?=some z:=by
 have h1:r≤i:=by
  refine Nat.le_of_not_lt fun n=>?_
  have:=R.lo i z n hi
  omega
 have hl:=(List.getElem?_eq_some_iff.mp hi).1
 by_cases e:r=i
 ·rw [e];exact hi
 ·have hr:r<xs.length:=by omega
  have hx:xs[r]?=some xs[r]:=List.getElem?_eq_getElem hr
  have:=R.hi r _ (Nat.le_refl _) hx
  have:=srt_lt hs hx hi (by omega)
  omega
theorem mem_ix {xs:List Int}{z:Int}:z∈xs↔∃ i:Nat,xs[i]?=some z:=List.mem_iff_getElem?
theorem places_mem {xs:List Int}{P:List Piece} (S:Places xs P) {z:Int}:z∈xs↔∃ q∈P,(q.place:Int)=z:=by
 constructor
 ·intro h
  obtain ⟨i,hi⟩:=mem_ix.mp h
  exact S.to i z hi
 ·rintro ⟨q,hq,rfl⟩
  obtain ⟨i,hi⟩:=S.of q hq
  exact mem_ix.mpr ⟨i,hi⟩
theorem places_mk {xs:List Int}{P:List Piece} (srt:xs.Pairwise (·<·)) (len:xs.length=P.length) (mem:∀ z,z∈xs↔∃ q∈P,(q.place:Int)=z):Places xs P :=
 ⟨srt,len,fun i z h=>(mem z).mp (mem_ix.mpr ⟨i,h⟩),fun q hq=>mem_ix.mp ((mem _).mpr ⟨q,hq,rfl⟩)⟩
theorem places_nil:Places [] []:=⟨.nil,rfl,fun i z h=>by simp at h,fun q h=>by simp at h⟩
theorem take_rank {xs:List Int}{z:Int}{r:Nat} (R:IsRank xs z r):(∀ x∈xs.take r,x<z)∧∀ x∈xs.drop r,z≤x:=by
 refine ⟨fun x hx=>?_,fun x hx=>?_⟩
 ·obtain ⟨i,hi⟩:=mem_ix.mp hx
  have hl:=(List.getElem?_eq_some_iff.mp hi).1
  rw [List.length_take] at hl
  rw [List.getElem?_take_of_lt (by omega)] at hi
  exact R.lo i x (by omega) hi
 ·obtain ⟨i,hi⟩:=mem_ix.mp hx
  rw [List.getElem?_drop] at hi
  exact R.hi (r+i) x (by omega) hi
theorem places_insert {xs:List Int}{P:List Piece}{q:Piece}{r:Nat} (S:Places xs P) (R:IsRank xs (q.place:Int) r) (hn:∀ x∈P,x.place≠q.place) :
  Places (xs.take r++(q.place:Int)::xs.drop r) (q::P):=by
 obtain ⟨h1,h2⟩:=take_rank R
 have hnot:(q.place:Int)∉xs:=fun h=>by
  obtain ⟨u,hu,e⟩:=(places_mem S).mp h
  exact hn u hu (by omega)
 have hsplit:xs.take r++xs.drop r=xs:=List.take_append_drop r xs
 refine places_mk ?_ ?_ fun z=>?_
 ·have hp:=S.srt
  rw [← hsplit,List.pairwise_append] at hp
  rw [List.pairwise_append]
  refine ⟨hp.1,List.pairwise_cons.mpr ⟨fun x hx=>?_,hp.2.1⟩,fun x hx y hy=>?_⟩
  ·have h3:=h2 x hx
   have h4:x≠(q.place:Int):=fun e=>hnot (by rw [← e];exact List.mem_of_mem_drop hx)
   omega
  ·rcases List.mem_cons.mp hy with rfl | hy
   ·exact h1 x hx
   ·exact hp.2.2 x hx y hy
 ·have:=S.len
  have:=R.le
  rw [List.length_append,List.length_cons,List.length_cons,List.length_take,List.length_drop]
  omega
 ·have hm:=places_mem S (z:=z)
  rw [← hsplit,List.mem_append] at hm
  rw [List.mem_append,List.mem_cons]
  constructor
  ·rintro (h | h | h)
   ·obtain ⟨u,hu,e⟩:=hm.mp (.inl h)
    exact ⟨u,List.mem_cons_of_mem _ hu,e⟩
   ·exact ⟨q,List.mem_cons_self,h.symm⟩
   ·obtain ⟨u,hu,e⟩:=hm.mp (.inr h)
    exact ⟨u,List.mem_cons_of_mem _ hu,e⟩
  ·rintro ⟨u,hu,e⟩
   rcases List.mem_cons.mp hu with rfl | hu
   ·exact .inr (.inl e.symm)
   ·rcases hm.mpr ⟨u,hu,e⟩ with h | h
    ·exact .inl h
    ·exact .inr (.inr h)
theorem filter_one {α:Type}{f:α→Nat}:∀ {l:List α}{q:α},l.Pairwise (fun a b=>f a≠f b)→q∈l→(l.filter fun x=>f x != f q).length+1=l.length
 | [],q,_,h=>by simp at h
 | a::l,q,hp,h=>by
  obtain ⟨h1,h2⟩:=List.pairwise_cons.mp hp
  by_cases e:f a=f q
  ·have hall:l.filter (fun x=>f x != f q)=l:=by
    refine List.filter_eq_self.mpr fun x hx=>?_
    have:=h1 x hx
    rw [bne_iff_ne]
    omega
   rw [List.filter_cons,if_neg (by simp [e]),hall,List.length_cons]
  ·have hq:q∈l:=by
    rcases List.mem_cons.mp h with rfl | h
    ·exact absurd rfl e
    ·exact h
   rw [List.filter_cons,if_pos (by simp [e]),List.length_cons,List.length_cons,filter_one h2 hq]
abbrev Nums (P:List Piece):Prop:=P.Pairwise (fun a b=>a.number≠b.number)
theorem pw_inj {α:Type}{f:α→Nat}{l:List α} (hp:l.Pairwise (fun a b=>f a≠f b)) {x y:α} (hx:x∈l) (hy:y∈l) (e:f x=f y):x=y:=by
 obtain ⟨i,h1,e1⟩:=List.getElem_of_mem hx
 obtain ⟨j,h2,e2⟩:=List.getElem_of_mem hy
 rcases Nat.lt_trichotomy i j with l | l | l
 ·have:=List.pairwise_iff_getElem.mp hp i j h1 h2 l
  rw [e1,e2] at this
  exact absurd e this
 ·subst l;rw [← e1,← e2]
 ·have:=List.pairwise_iff_getElem.mp hp j i h2 h1 l
  rw [e1,e2] at this
  exact absurd e.symm this
theorem places_erase {xs:List Int}{P:List Piece}{q:Piece}{r:Nat} (S:Places xs P) (D:Dis P) (N:Nums P) (hq:q∈P) (hr:xs[r]?=some (q.place:Int)) :
  Places (xs.eraseIdx r) (P.filter fun x=>x.number != q.number):=by
 have hrl:=(List.getElem?_eq_some_iff.mp hr).1
 refine places_mk (S.srt.sublist (List.eraseIdx_sublist _ _)) ?_ fun z=>?_
 ·have:=filter_one (f:=Piece.number) N hq
  have:=S.len
  rw [List.length_eraseIdx,if_pos hrl]
  omega
 ·have hnd:xs.Nodup:=S.srt.imp fun h=>by omega
  constructor
  ·intro h
   obtain ⟨u,hu,e⟩:=(places_mem S).mp ((List.eraseIdx_sublist _ _).subset h)
   refine ⟨u,List.mem_filter.mpr ⟨hu,?_⟩,e⟩
   rw [bne_iff_ne]
   intro en
   have euq:=pw_inj (f:=Piece.number) N hu hq en
   subst euq
   obtain ⟨j,hj⟩:=mem_ix.mp h
   rw [List.getElem?_eraseIdx] at hj
   split at hj
   ·have:=srt_inj S.srt hr (by rw [hj,e])
    omega
   ·have:=srt_inj S.srt hr (by rw [hj,e])
    omega
  ·rintro ⟨u,hu,e⟩
   obtain ⟨hu,hn⟩:=List.mem_filter.mp hu
   rw [bne_iff_ne] at hn
   obtain ⟨j,hj⟩:=S.of u hu
   have hjr:j≠r:=fun ej=>by
    rw [ej,hr] at hj
    have e2:u=q:=dis_place D hu hq (by have:=Option.some.inj hj;omega)
    exact hn (by rw [e2])
   rw [← e]
   refine mem_ix.mpr ?_
   by_cases l:j<r
   ·exact ⟨j,by rw [List.getElem?_eraseIdx,if_pos l];exact hj⟩
   ·refine ⟨j - 1,?_⟩
    rw [List.getElem?_eraseIdx,if_neg (by omega)]
    rw [show j - 1+1=j by omega];exact hj
end Bk
namespace Bk
open PySem PySem.Spec PyProof.Rows L2
theorem paired_at {α β:Type}{F:α→β→Prop}:∀ {l₁:List α}{l₂:List β},Paired F l₁ l₂→∀ {i:Nat}{b:β},l₂[i]?=some b→∃ a,l₁[i]?=some a∧F a b
 | _,_,.nil,_,_,e=>by simp at e
 | _,_,.cons r _,0,_,e=>by simp at e;subst e;exact ⟨_,rfl,r⟩
 | _,_,.cons _ t,i+1,_,e=>by
  obtain ⟨a,h1,h2⟩:=paired_at t (i:=i) (by simpa using e)
  exact ⟨a,by simpa using h1,h2⟩
theorem okObj {P:Program}{w:World}{H:Hp}{h:Heap}{a:Addr}{o:HO} (x:ObjOk P w H h a o):∃ ob,h.get? a=some ob:=by
 cases o with
 | lst xs=>obtain ⟨_,_,_,_,e⟩:=x;exact ⟨_,e⟩
 | tup xs=>obtain ⟨_,_,_,o,e,_⟩:=x;exact ⟨_,e⟩
 | dK kvs=>obtain ⟨_,_,_,_,o,_,_,e,_⟩:=x;exact ⟨_,e⟩
 | dT kvs=>obtain ⟨_,_,_,_,o,_,_,e,_⟩:=x;exact ⟨_,e⟩
 | set S n=>obtain ⟨o,_,_,_,e,_⟩:=x;exact ⟨_,e⟩
 | ins C dx fs=>obtain ⟨_,_,_,e,_⟩:=x;exact ⟨_,e⟩
 | own y=>exact x
 | xd fs=>obtain ⟨_,⟨_,_,_,e,_⟩,_⟩:=x;exact ⟨_,e⟩
 | rng lo hi=>obtain ⟨_,_,_,e⟩:=x;exact ⟨_,e⟩
 | frz ob u=>obtain ⟨e,_⟩:=x;exact ⟨_,e⟩
 | tbl ps=>exact ⟨_,show h.get? a=some _ from x⟩
 | met f y=>exact ⟨_,show h.get? a=some _ from x⟩
 | ext φ=>obtain ⟨_,e,_⟩:=x;exact e
section
variable {X:Cx}{pins:List (Addr × Obj)}{σ:L2.St}{H:Hp}{s:Shared}{h':Heap}
theorem fresh_of (I:Inv X pins σ H s) {a:Addr} (hn:s.heap.get? a=none):H a=none:=by
 cases e:H a with
 | none=>rfl
 | some o =>
  obtain ⟨ob,q⟩:=okObj (I.hok a o e)
  rw [hn] at q;cases q
theorem laidN {a:Addr}{o:HO}{t':Nat} (I:Inv X pins σ H s) (k:∀ b u,s.heap.get? b=some u→h'.get? b=some u) (hn:s.heap.get? a=none) (new:ObjOk X.prog X.w (upd H a o) h' a o) :
  Inv X pins σ (upd H a o) { s with heap:=h',toks:=t' }:=by
 have hf:=fresh_of I hn
 have ne:∀ b u,s.heap.get? b=some u→b≠a:=fun b u q z=>by rw [z,hn] at q;cases q
 refine I.un (t':=t') ⟨fun b u q _ _ _=>k b u q,fun b u q _ _ _=>⟨u.slots,k b u q⟩,fun b u q n _=>by rw [upd_ne (ne b u q)];exact n,fun b u q _=>⟨u,k b u q⟩,fun b xs q=>by rw [upd_ne (ne_of_none q hf)];exact q,
  fun b u xs q=>by rw [upd_ne (ne_of_none q hf)];exact q,fun b ps q=>⟨#[],by rw [upd_ne (ne_of_none q hf),q];simp⟩⟩ fun b u e=>?_
 by_cases hb:b=a
 ·subst hb;rw [upd_same] at e;cases e;exact new
 ·rw [upd_ne hb] at e
  exact (I.hok b u e).stay (fun c v _ q=>k c v q) (fun c q=>by rw [upd_ne (ne_of_none q hf)];exact q) fun c xs q=>by rw [upd_ne (ne_of_none q hf)];exact q
theorem none_of_kept (k:∀ b u,s.heap.get? b=some u→h'.get? b=some u) {a:Addr} (ha:h'.objs.size≤a):s.heap.get? a=none:=by
 cases e:s.heap.get? a with
 | none=>rfl
 | some o=>exact absurd (Heap.lt_size (k a o e)) (Nat.not_lt.mpr ha)
end
section
variable {X:Cx}
def rBits:V→List V→Hp→VK→Prop:=fun x xs H Q=>∃ i,x=.int i∧xs=[]∧Q (.int (Builtin.Int.intBits i)) H
theorem mt_bits:MtR X "int.bit_length" rBits:=by
 intro pins s σ H x xs v us Q I rx rxs h
 obtain ⟨i,rfl,rfl,q⟩:=h
 obtain ⟨t,rfl⟩:=rx
 cases rxs
 exact call_int_bit_length ⟨.int _,H,I.tok _,⟨_,rfl⟩,q⟩
theorem list_extend_tupG (l:Addr) (items:Array Value) (n:Nat) (b:Addr) (items2:Array Value) (n2:Nat) (dd:Option Addr) (sl:Array (Option Value)) (hs0:¬(!items.isEmpty && Builtin.List.listTooLong (items.size+items2.size))=true) (hs1:items.size≤sizeLine) (hs2:items.size+items2.size≤sizeLine+1) :
  Meets (Builtin.«list.extend» ⟨[.ref l,.ref b],[]⟩) (fun _ R s=>s.heap.get? l=some { cls:=.type "list",dict:=none,data:=.seq items n,slots:=#[] }∧s.heap.get? b=some { cls:=.type "tuple",dict:=dd,data:=.seq items2 n2,slots:=sl }∧R (.ok (.ret Value.none)) { s with heap:=s.heap.update l (Obj.mapSeq fun x=>x++items2),toks:=s.toks }) :=
 .of_wp fun prog w A R s h=>by
  obtain ⟨hp,g,d,tk,os⟩:=s;obtain ⟨hl,hb,h⟩:=h;have f1:=AutoSeq1.idx_int;have f2:=AutoSeq1.sub_tuple_tuple;have f3:=AutoSeq1.sub_list_list;have f4:=AutoSeq1.sub_tuple_list;have f5:=AutoSeq1.sub_list_tuple;
  have hz':(items++items2).size≤sizeLine+1:=by rw [Array.size_append];exact hs2
  wp_walk using (wpAny_updateSeq hl rfl (hz:=hs1) (_hz':=hz')),AutoSeq1.wpAny_loadPart' hl,AutoSeq1.wpAny_loadPart' hb;exact ⟨_,rfl,h⟩
def rExtendT:V→List V→Hp→VK→Prop:=fun x vs H Q=>∃ l b xs zs,x=.ref l∧vs=[.ref b]∧H l=some (.lst xs)∧H b=some (.tup zs)∧xs.length+zs.length≤sizeLine∧Q .non (upd H l (.lst (xs++zs)))
theorem mt_extendT:MtM X "list.extend" rExtendT:=by
 intro pins s σ H x vs v us Q I rx rv h
 obtain ⟨l,b,xs,zs,rfl,rfl,hH,hB,hz,q⟩:=h
 cases rx
 obtain ⟨u,rfl,ru⟩:=rv.one
 cases ru
 obtain ⟨z,its,n,r,hl,e⟩:=I.lstM hH
 obtain ⟨z2,its2,r2,ob,e2,c2,n2,d2⟩:=I.hok b _ hB
 obtain ⟨oc,od,odat,osl⟩:=ob
 have c2:oc=.type "tuple":=c2
 have d2:odat=.seq its2.toArray n2:=d2
 subst c2 d2
 have hl2:=r2.length
 have hsz:its.toArray.size+its2.toArray.size≤sizeLine:=by rw [List.size_toArray,List.size_toArray];omega
 have hlong:¬ (!its.toArray.isEmpty && Builtin.List.listTooLong (its.toArray.size+its2.toArray.size))=true:=by
  rw [notLongL hsz,Bool.and_false]
  exact Bool.false_ne_true
 refine call_meets F.slot_list_extend ⟨_,e,rfl⟩ F.entry_list_extend (F.args_list_extend_2 _ _)
  (list_extend_tupG l its.toArray n b its2.toArray n2 od osl hlong (by rw [List.size_toArray];omega) (by omega)) ⟨e,e2,?_⟩
 refine ⟨.non,_,I.lset (its':=its++its2) hH e (by simp) (r.append r2) ?_,rfl,q⟩
 rw [List.length_append]
 omega
def rSortedD:List V→Hp→VK→Prop:=fun vs H Q=>∃ (d:Addr) (kvs:List (Key × V)) (ns:List Int),vs=[V.ref d]∧H d=some (.dK kvs)∧kvs.map (·.1)=ns.map Sum.inl ∧
 ∀ (ns':List Int) (p:Addr),ns'.Perm ns→ns'.Pairwise (·≤·)→H p=none→Q (.ref p) (upd H p (.lst (ns'.map V.int)))
theorem ints_of_at:∀ {vs:List Value}{ns:List Int},vs.length=ns.length→(∀ (j:Nat) (v:Value),vs[j]?=some v→∃ n t,ns[j]?=some n∧v=Value.int n t)→IntsAre vs ns
 | [],[],_,_=>.nil
 | [],_::_,h,_=>by simp at h
 | _::_,[],h,_=>by simp at h
 | v::vs,n::ns,h,k=>by
  obtain ⟨m,t,e,rfl⟩:=k 0 v rfl
  have e:n=m:=by simpa using e
  subst e
  exact .cons n t (ints_of_at (by simpa using h) fun j u hu=>by simpa using k (j+1) u (by simpa using hu))
theorem cr_sortedD (hc:X.calm=true):CallR X (.builtin "sorted") rSortedD:=by
 intro pins s σ H vs us Q I r h
 obtain ⟨d,kvs,ns,rfl,hd,hk,q⟩:=h
 rw [Vals.ref1 r]
 obtain ⟨hz,hs,ws,kv,hD⟩:=I.hok d _ hd
 obtain ⟨ep,hat⟩:=hD.dictAt
 have hl:kvs.length=ws.length:=Paired.length kv
 have hln:kvs.length=ns.length:=by have:=congrArg List.length hk;simpa using this
 refine Calls.call_function_entry kind_sorted plain_sorted entry_sorted (args_sorted1 _) ?_
 unfold Builtin.«sorted»
 refine wpAny_bind (m:=checkCount "sorted" 1 1 _) (wpAny_pure ?_)
 refine wpAny_bind (PySem.W.kdu_collect (A:=X.A.in1) (PySem.W.kdl_dict (knd:=mixKind X.prog X.w) (kvs:=ws) (ep:=ep) hs) (I.ok.hd hc) hat (by rw [← hl];exact hz) fun h' tk acc hk' hacc=>?_)
 have hla:acc.toList.length=ws.length:=by rw [Array.length_toList];exact hacc.1
 have hI:IntsAre acc.toList ns:=by
  refine ints_of_at (by omega) fun j v hv=>?_
  obtain ⟨k,x,e,hkv⟩:=hacc.2 j v (by rw [← Array.getElem?_toList];exact hv)
  have hj:j<kvs.length:=by have:=(List.getElem?_eq_some_iff.mp e).1;omega
  have hkj:(kvs.map (·.1))[j]?=some k:=by
   obtain ⟨p,hp,e1,_⟩:=paired_at kv e
   rw [List.getElem?_map,hp]
   exact congrArg some e1
  rw [hk,List.getElem?_map] at hkj
  cases en:ns[j]? with
  | none=>rw [en] at hkj;cases hkj
  | some n =>
   rw [en] at hkj
   cases hkj
   obtain ⟨t,rfl⟩:=Value.isInt_shape (show Value.isInt n v=true from hkv)
   exact ⟨n,t,rfl,rfl⟩
 refine wpAny_bind (wpAny_newList ?_ (by rw [hla,← hl];exact hz))
 have ho:(h'.push { cls:=.type "list",data:=.seq acc.toList.toArray }).get? h'.objs.size=some (seqObj "list" acc.toList.toArray 0):=Heap.get?_push_size _ rfl
 refine wpAny_bind (wpAny_holding (wpAny_call_entry slot_list_sort ⟨_,ho,rfl⟩ entry_list_sort (list_sort_treeAny (n:=0) (vs:=acc.toList) (s:={ s with heap:=h'.push { cls:=.type "list",data:=.seq acc.toList.toArray },toks:=tk }) ho hI (by omega) fun out ns' h1 h2 h3=>⟨.none,rfl,?_⟩) (args_list_sort _)))
 refine wpAny_pure ⟨_,rfl,?_⟩
 obtain ⟨ep2,he'⟩:=PyProof.Rows.sortedHeap_at (vs:=acc.toList) (out:=out) ho
 have hlen:(ns'.map V.int).length≤sizeLine:=by rw [List.length_map,h2.length_eq,← hln];exact hz
 have hsz:=none_of_kept hk' (Nat.le_refl h'.objs.size)
 refine ⟨.ref _,upd H h'.objs.size (.lst (ns'.map V.int)),laidN (s:=s) (h':=sortedHeap (h'.push { cls:=.type "list",data:=.seq acc.toList.toArray }) h'.objs.size acc.toList out) (t':=tk) I (fun b u hu=>?_) hsz ⟨hlen,out.toList,ep2,vals_of_ints h1,he'⟩,rfl,q ns' _ h2 h3 (fresh_of I hsz)⟩
 have hb:b<h'.objs.size:=Heap.lt_size (hk' b u hu)
 rw [PyProof.Rows.sortedHeap_old (Nat.ne_of_lt hb) (by show b<(h'.push _).objs.size;rw [size_push'];exact Nat.lt_succ_of_lt hb)]
 exact Heap.get?_push_of_some _ (hk' b u hu)
end
theorem perm_map {α β:Type}{f:α→β}:∀ {l l':List β},l.Perm l'→∀ ps:List α,l'=ps.map f→∃ ps':List α,ps'.Perm ps∧l=ps'.map f:=by
 intro l l' h
 induction h with
 | nil=>intro ps e;exact ⟨[],by rw [List.map_eq_nil_iff.mp e.symm],rfl⟩
 | @cons x l1 l2 _ ih =>
  intro ps e
  obtain ⟨p,r,rfl,e1,e2⟩:=List.map_eq_cons_iff.mp e.symm
  obtain ⟨r',h1,h2⟩:=ih r e2.symm
  exact ⟨p::r',h1.cons p,by rw [List.map_cons,← h2,e1]⟩
 | swap x y l =>
  intro ps e
  obtain ⟨p,r,rfl,e1,e2⟩:=List.map_eq_cons_iff.mp e.symm
  obtain ⟨p2,r2,rfl,e3,e4⟩:=List.map_eq_cons_iff.mp e2
  exact ⟨p2::p::r2,List.Perm.swap _ _ _,by rw [List.map_cons,List.map_cons,e1,e3,e4]⟩
 | trans _ _ ih1 ih2 =>
  intro ps e
  obtain ⟨q,h1,h2⟩:=ih2 ps e
  obtain ⟨q',h3,h4⟩:=ih1 q h2
  exact ⟨q',h3.trans h1,h4⟩
theorem vals_refs:∀ as:List Addr,Vals (as.map V.ref) (as.map Value.ref)
 | []=>.nil
 | a::r=>.cons rfl (vals_refs r)
theorem vals_refs_inv:∀ {as:List Addr}{us:List Value},Vals (as.map V.ref) us→us=as.map Value.ref
 | [],_,h=>by cases h;rfl
 | a::r,_,h=>by
  cases h with
  | cons x t =>
   cases x
   rw [vals_refs_inv t];rfl
theorem tupItems_ints:∀ {us:List Value}{ns:List Int} (i:Nat),IntsAre us ns→tupItems (fun _=>false) i us=some (ns.map Sum.inl)
 | _,_,_,.nil=>rfl
 | _,_,i,.cons n t h=>by
  show (if (false=true) then none else (tupItems (fun _=>false) (i+1) _).map (Sum.inl n::·))=_
  rw [if_neg (by decide),tupItems_ints (i+1) h]
  rfl
section
variable {X:Cx}
def rSortedT (K:PySem.W.Frag):List V→Hp→VK→Prop:=fun vs H Q=>∃ (a:Addr) (ps:List (Addr × List Int)),vs=[V.ref a]∧SqL K H a (ps.map fun p=>V.ref p.1)∧(∀ p∈ps,H p.1=some (.tup (p.2.map V.int))∧p.2≠[]) ∧
 ∀ (ps':List (Addr × List Int)) (p:Addr),ps'.Perm ps→ps'.Pairwise (fun x y=>x.2.headD 0≤y.2.headD 0)→H p=none→Q (.ref p) (upd H p (.lst (ps'.map fun p=>V.ref p.1)))
theorem cr_sortedT:CallR X (.builtin "sorted") (rSortedT X.K):=by
 intro pins s σ H vs us Q I r h
 obtain ⟨a,ps,rfl,hs,ht,q⟩:=h
 obtain ⟨its,rv,hl,hz⟩:=I.list hs
 rw [Vals.ref1 r]
 have eits:its=ps.map fun p=>Value.ref p.1:=by
  have:=vals_refs_inv (as:=ps.map (·.1)) (us:=its) (by rw [List.map_map];exact rv)
  rw [this,List.map_map];rfl
 have hlen:ps.length=its.length:=by rw [eits,List.length_map]
 have key:∀ p∈ps,∃ (o:Obj) (xs:Array Value) (n:Nat),s.heap.get? p.1=some o∧o.cls=.type "tuple"∧o.data=.seq xs n∧IntsAre xs.toList p.2:=fun p hp=>by
  obtain ⟨h1,_⟩:=ht p hp
  obtain ⟨_,us,rr,o,e,c,n,d⟩:=I.hok p.1 _ h1
  exact ⟨o,us.toArray,n,e,c,d,by simpa using rr.ints⟩
 have kC:∀ p∈ps,G.tupKeyC s.heap (fun _=>false) (Value.ref p.1)=some (p.2.map Sum.inl):=fun p hp=>by
  obtain ⟨o,xs,n,e,c,d,hi⟩:=key p hp
  unfold G.tupKeyC
  rw [if_pos (by simp [G.isTupObj,e,c])]
  simp only [tupKey,e,d]
  exact tupItems_ints 0 hi
 have htups:∀ l:List (Addr × List Int),(∀ p∈l,p∈ps)→∃ fs,TupsOf s.heap (fun _=>false) (l.map fun p=>Value.ref p.1) fs:=fun l=>by
  induction l with
  | nil=>intro _;exact ⟨[],.nil⟩
  | cons p l ih =>
   intro hm
   obtain ⟨fs,hfs⟩:=ih fun x hx=>hm x (List.mem_cons_of_mem _ hx)
   obtain ⟨o,xs,n,e,c,d,hi⟩:=key p (hm p List.mem_cons_self)
   have hne:=(ht p (hm p List.mem_cons_self)).2
   obtain ⟨k,ks,ek⟩:∃ k ks,p.2=k::ks:=by
    cases e2:p.2 with
    | nil=>exact absurd e2 hne
    | cons k ks=>exact ⟨k,ks,rfl⟩
   rw [ek] at hi
   cases hx:xs.toList with
   | nil=>rw [hx] at hi;cases hi
   | cons v r =>
    rw [hx] at hi
    cases hi with
    | cons k t h =>
     exact ⟨_,.cons ⟨p.1,o,xs,n,rfl,e,c,d,by rw [← Array.getElem?_toList,hx];rfl,fun _=>⟨k,t,rfl⟩,fun z=>by cases z⟩ hfs⟩
 obtain ⟨fs,hfs⟩:=htups ps fun _ h=>h
 rw [← eits] at hfs
 refine G.sorted_tups (shape:=fun _=>false) hl.isList hfs (fun v hv=>?_) (by rw [← hlen];rw [List.length_map] at hz;exact hz) fun st' hp hsrt _=>?_
 ·rw [eits] at hv
  obtain ⟨p,hp,rfl⟩:=List.mem_map.mp hv
  exact ⟨_,kC p hp⟩
 obtain ⟨ep,he'⟩:=PyProof.Rows.sortedAll_at s.heap its ((arrOf st').map (·.2))
 have hlp:(arrOf st').toList.Perm (its.zip its):=by rw [← pairsOf_toList];exact Array.perm_iff_toList_perm.mp hp
 have hmem:∀ p,p∈(arrOf st').toList→p.1=p.2∧p.1∈its:=fun p hp'=>mem_zip_self (hlp.mem_iff.mp hp')
 have hout:((arrOf st').map (·.2)).toList=(arrOf st').toList.map (·.1):=by
  rw [Array.toList_map];exact List.map_congr_left fun p hp'=>(hmem p hp').1.symm
 have hperm:((arrOf st').toList.map (·.1)).Perm its:=by
  have:=hlp.map (·.1)
  rw [show (its.zip its).map (·.1)=its from List.map_fst_zip (Nat.le_refl _)] at this
  exact this
 obtain ⟨ps',h1,h2⟩:=perm_map hperm ps eits
 have hlen':(ps'.map fun p=>V.ref p.1).length≤sizeLine:=by rw [List.length_map,h1.length_eq];rw [List.length_map] at hz;exact hz
 have hv:Vals (ps'.map fun p=>V.ref p.1) ((arrOf st').map (·.2)).toList:=by
  rw [hout,h2]
  have:=vals_refs (ps'.map (·.1))
  rw [List.map_map,List.map_map] at this
  exact this
 refine ⟨.ref _,upd H (s.heap.objs.size+1) (.lst (ps'.map fun p=>V.ref p.1)),I.laid (t':=s.toks) (fun _ _=>PyProof.Rows.sortedAll_old) (Nat.le_succ _) ⟨hlen',_,ep,hv,he'⟩,rfl,q ps' _ h1 ?_ (I.hok.fresh (Nat.le_succ _))⟩
 rw [List.pairwise_iff_getElem]
 intro i j hi hj hij
 have hsz:(arrOf st').size=ps'.length:=by
  have:=congrArg List.length h2
  simpa using this
 have q1:=hsrt i j (Nat.le_of_lt hij) (by rw [← hp.size_eq,hsz];exact hj)
 have kk:∀ k (hk:k<ps'.length),KK (G.tupKindC s.heap fun _=>false) (arrOf st') k=ps'[k].2.map Sum.inl:=fun k hk=>by
  have e1:(arrOf st')[k]?=some (arrOf st')[k]:=Array.getElem?_eq_getElem (by omega)
  have e2:(arrOf st')[k].1=Value.ref ps'[k].1:=by
   have:=congrArg (·[k]?) h2
   simp only [List.getElem?_map,Array.getElem?_toList,e1,List.getElem?_eq_getElem hk] at this
   simpa using this
  unfold KK
  rw [e1]
  show ((G.tupKeyC s.heap fun _=>false) (arrOf st')[k].1).getD []=_
  rw [e2,kC _ (h1.mem_iff.mp (List.getElem_mem hk))]
  rfl
 rw [kk i (by omega),kk j hj] at q1
 have n1:=(ht _ (h1.mem_iff.mp (List.getElem_mem (show i<ps'.length by omega)))).2
 have n2:=(ht _ (h1.mem_iff.mp (List.getElem_mem hj))).2
 revert q1 n1 n2
 generalize ps'[i].2=x
 generalize ps'[j].2=y
 intro q1 n1 n2
 cases x with
 | nil=>exact absurd rfl n1
 | cons x xs =>
  cases y with
  | nil=>exact absurd rfl n2
  | cons y ys =>
   have q2:lexLt itemOrd (Sum.inl y::ys.map Sum.inl) (Sum.inl x::xs.map Sum.inl)=false:=q1
   have q3:=(lex_false.mp q2).1
   have q4:decide (y<x)=false:=q3
   have:=of_decide_eq_false q4
   show x≤y
   omega
end
abbrev ZipR (h:Heap) (z TI TO T:Addr) (b:Bool):Prop :=
 h.get? z=some { cls:=.type "zip",dict:=none,data:=.fields #[rawInt T,.bool b,.bool false,.ref TI,.ref TO],slots:=#[] }
section
variable {prog:Program}{w:World}{A:Around}{E:Value→Shared→Prop}{s:Shared}
theorem zip_free {z TI TO T:Addr}{b:Bool}{oT:Obj}{Q:Bool→Shared→Prop} (hz:ZipR s.heap z TI TO T b) (hT:s.heap.get? T=some oT)
  (h:∀ h',ZipR h' z TI TO T true→Heap.SameBut z s.heap h'→Q false { s with heap:=h' }):wpAny (model prog w) A (Builtin.SmallTypes.ownedTupleIsFree (.ref z)) Q E s:=by
 unfold Builtin.SmallTypes.ownedTupleIsFree
 refine wpAny_bind (wpAny_field hz rfl (x:=rawInt T) rfl ?_)
 show wpAny _ _ (loadIfAlive ((T:Int).toNat) >>= _) _ _ _
 refine wpAny_bind (PySem.W.kdx_alive (o:=oT) (by rw [Int.toNat_natCast];exact hT) ?_)
 try simp only [Option.isNone_some,Bool.false_eq_true,if_false]
 refine wpAny_bind (wpAny_field hz rfl (x:=.bool b) rfl ?_)
 cases b with
 | true =>
  rw [if_neg (by decide)];exact wpAny_pure (h s.heap hz ⟨rfl,fun _ _=>rfl⟩)
 | false =>
  rw [if_pos (by decide)]
  refine wpAny_bind (wpAny_setField_rec hz (by simp) fun h₁ hz₁ hs₁=>?_)
  exact wpAny_pure (h h₁ hz₁ hs₁)
theorem zip_again {z TI TO i1 i2 l1 l2 T:Addr}{oT:Obj}{b:Bool}{k1 k2:Nat}{xs ys:Array Value}{x y:Value}{Q:Value→Shared→Prop} (D:ZipApart z TI TO i1 i2 l1 l2)
  (hz:ZipR s.heap z TI TO T b) (hT:s.heap.get? T=some oT) (hTI:IsPair s.heap TI (.ref i1) (.ref i2))
  (h1:s.heap.IsListIter i1 l1 k1) (h2:s.heap.IsListIter i2 l2 k2) (hl1:s.heap.IsList l1 xs) (hl2:s.heap.IsList l2 ys) (hx:xs[k1]?=some x) (hy:ys[k2]?=some y)
  (hQ:∀ h',ZipR h' z TI TO T true→h'.IsListIter i1 l1 (k1+1)→h'.IsListIter i2 l2 (k2+1)→IsPair h' s.heap.objs.size x y→h'.objs.size=s.heap.objs.size+1 →
   (∀ c o,c≠z→c≠i1→c≠i2→s.heap.get? c=some o→h'.get? c=some o)→Q (.ref s.heap.objs.size) { s with heap:=h' }) :
  wpAny (model prog w) A (Builtin.«zip.__next__» ⟨[.ref z],[]⟩) (fun fin s'=>∃ v,fin=.done (.ret v)∧Q v s') E s:=by
 show wpAny _ _ (field (.ref z) 2 >>= _) _ _ _
 refine wpAny_bind (wpAny_field hz rfl (x:=.bool false) rfl ?_)
 show wpAny _ _ (field (.ref z) 3 >>= _) _ _ _
 refine wpAny_bind (wpAny_field hz rfl (x:=.ref TI) rfl ?_)
 refine wpAny_bind (wpAny_seqItems hTI rfl ?_)
 show wpAny _ _ (Builtin.SmallTypes.ownedTupleIsFree (.ref z) >>= _) _ _ _
 refine wpAny_bind (zip_free hz hT fun h₁ hz₁ hs₁=>?_)
 simp only [Bool.false_eq_true,if_false]
 refine wpAny_bind ?_
 simp only [List.forIn_toArray,List.forIn_cons,List.forIn_nil]
 refine wpAny_bind (wpAny_bind (wpAny_holding ?_))
 show wpAny _ _ (Builtin.SmallTypes.nextOf (.ref i1) >>= _) _ _ _
 refine wpAny_bind (wpAny_nextOf_list_item (h1.extBut hs₁.extBut D.i1z) (hl1.extBut hs₁.extBut D.l1z) hx fun h₂ h1₂ hs₂=>wpAny_pure ?_)
 refine wpAny_pure ?_
 refine wpAny_bind (wpAny_bind (wpAny_holding ?_))
 show wpAny _ _ (Builtin.SmallTypes.nextOf (.ref i2) >>= _) _ _ _
 refine wpAny_bind (wpAny_nextOf_list_item ((h2.extBut hs₁.extBut D.i2z).extBut hs₂.extBut D.i12.symm)
  ((hl2.extBut hs₁.extBut D.l2z).extBut hs₂.extBut D.l2i1) hy fun h₃ h2₃ hs₃=>wpAny_pure ?_)
 refine wpAny_pure (wpAny_pure ?_)
 have hsz:h₃.objs.size=s.heap.objs.size:=by rw [hs₃.1,hs₂.1,hs₁.1]
 show wpAny _ _ (newTuple [x,y] >>= _) _ _ _
 refine wpAny_bind (wpAny_newTuple ?_)
 refine wpAny_pure ⟨_,rfl,?_⟩
 show Q (.ref h₃.objs.size) { s with heap:=h₃.push { cls:=.type "tuple",data:=.seq #[x,y] } }
 rw [hsz]
 have hk:∀ c o,c≠z→c≠i1→c≠i2→s.heap.get? c=some o→h₃.get? c=some o:=fun c o c1 c2 c3 e=>hs₃.extBut _ _ c3 (hs₂.extBut _ _ c2 (hs₁.extBut _ _ c1 e))
 refine hQ _ (Heap.get?_push_of_some _ (hs₃.extBut _ _ D.i2z.symm (hs₂.extBut _ _ D.i1z.symm hz₁))) ((h1₂.extBut hs₃.extBut D.i12).at fun o e=>Heap.get?_push_of_some _ e) (h2₃.at fun o e=>Heap.get?_push_of_some _ e) ?_ (by rw [size_push',hsz]) fun c o c1 c2 c3 e=>Heap.get?_push_of_some _ (hk c o c1 c2 c3 e)
 rw [← hsz]
 exact Heap.get?_push_size _ rfl
theorem zip_end2 {z TI TO i1 i2 l1 l2 T:Addr}{oT:Obj}{b:Bool}{k1 k2:Nat}{xs ys:Array Value}{Q:Fin→Shared→Prop} (hh:A.handled=none) (D:ZipApart z TI TO i1 i2 l1 l2)
  (hz:ZipR s.heap z TI TO T b) (hT:s.heap.get? T=some oT) (hTI:IsPair s.heap TI (.ref i1) (.ref i2))
  (h1:s.heap.IsListIter i1 l1 k1) (hl1:s.heap.IsList l1 xs) (hx:xs[k1]?=none)
  (hE:∀ h' e,(∀ c o,c≠z→c≠i1→c≠i2→s.heap.get? c=some o→h'.get? c=some o)→(∃ o,h'.get? e=some o∧o.cls=.type "StopIteration")→E (.ref e) { s with heap:=h' }) :
  wpAny (model prog w) A (Builtin.«zip.__next__» ⟨[.ref z],[]⟩) Q E s:=by
 show wpAny _ _ (field (.ref z) 2 >>= _) _ _ _
 refine wpAny_bind (wpAny_field hz rfl (x:=.bool false) rfl ?_)
 show wpAny _ _ (field (.ref z) 3 >>= _) _ _ _
 refine wpAny_bind (wpAny_field hz rfl (x:=.ref TI) rfl ?_)
 refine wpAny_bind (wpAny_seqItems hTI rfl ?_)
 show wpAny _ _ (Builtin.SmallTypes.ownedTupleIsFree (.ref z) >>= _) _ _ _
 refine wpAny_bind (zip_free hz hT fun h₁ hz₁ hs₁=>?_)
 simp only [Bool.false_eq_true,if_false]
 refine wpAny_bind ?_
 simp only [List.forIn_toArray,List.forIn_cons,List.forIn_nil]
 refine wpAny_bind (wpAny_bind (wpAny_holding ?_))
 show wpAny _ _ (Builtin.SmallTypes.nextOf (.ref i1) >>= _) _ _ _
 refine wpAny_bind (wpAny_nextOf_list_end hh (h1.extBut hs₁.extBut D.i1z) (hl1.extBut hs₁.extBut D.l1z) hx fun h₂ e hs₂ he=>?_)
 exact hE h₂ e (fun c o c1 c2 c3 q=>hs₂ _ _ c2 (hs₁.extBut _ _ c1 q)) he
theorem next_again {z TI TO i1 i2 l1 l2 T:Addr}{oT:Obj}{b:Bool}{k1 k2:Nat}{xs ys:Array Value}{x y:Value}{Q:Option Value→Shared→Prop} (D:ZipApart z TI TO i1 i2 l1 l2)
  (hz:ZipR s.heap z TI TO T b) (hT:s.heap.get? T=some oT) (hTI:IsPair s.heap TI (.ref i1) (.ref i2))
  (h1:s.heap.IsListIter i1 l1 k1) (h2:s.heap.IsListIter i2 l2 k2) (hl1:s.heap.IsList l1 xs) (hl2:s.heap.IsList l2 ys) (hx:xs[k1]?=some x) (hy:ys[k2]?=some y)
  (hQ:∀ h',ZipR h' z TI TO T true→h'.IsListIter i1 l1 (k1+1)→h'.IsListIter i2 l2 (k2+1)→IsPair h' s.heap.objs.size x y→h'.objs.size=s.heap.objs.size+1 →
   (∀ c o,c≠z→c≠i1→c≠i2→s.heap.get? c=some o→h'.get? c=some o)→Q (some (.ref s.heap.objs.size)) { s with heap:=h' }) :
  wpAny (model prog w) A (pyNext (.ref z)) Q E s:=by
 have hTy:s.TypeIs (.ref z) "zip":=⟨_,hz,rfl⟩
 unfold pyNext
 exact wpAny_bind (wpAny_attempt (wpAny_callSpecial?_slot (name:=Str.ofString "__next__") hTy PySem.F.slot_zip_next
  (wpAny_call_entry PySem.F.slot_zip_next hTy PySem.F.entry_zip_next
   (zip_again D hz hT hTI h1 h2 hl1 hl2 hx hy fun h' a1 a2 a3 a4 a5 a6=>wpAny_pure (hQ h' a1 a2 a3 a4 a5 a6)) (PySem.F.args_zip_next_1 _))))
theorem next_end2 {z TI TO i1 i2 l1 l2 T:Addr}{oT:Obj}{b:Bool}{k1 k2:Nat}{xs ys:Array Value}{Q:Option Value→Shared→Prop} (hh:A.handled=none) (D:ZipApart z TI TO i1 i2 l1 l2)
  (hz:ZipR s.heap z TI TO T b) (hT:s.heap.get? T=some oT) (hTI:IsPair s.heap TI (.ref i1) (.ref i2))
  (h1:s.heap.IsListIter i1 l1 k1) (hl1:s.heap.IsList l1 xs) (hx:xs[k1]?=none)
  (hQ:∀ h',(∀ c o,c≠z→c≠i1→c≠i2→s.heap.get? c=some o→h'.get? c=some o)→Q none { s with heap:=h' }) :
  wpAny (model prog w) A (pyNext (.ref z)) Q E s:=by
 have hTy:s.TypeIs (.ref z) "zip":=⟨_,hz,rfl⟩
 unfold pyNext
 refine wpAny_bind (wpAny_attempt (wpAny_callSpecial?_slot (name:=Str.ofString "__next__") hTy PySem.F.slot_zip_next
  (wpAny_call_entry PySem.F.slot_zip_next hTy PySem.F.entry_zip_next (zip_end2 (k2:=k2) (ys:=ys) hh D hz hT hTI h1 hl1 hx fun h' e hk he=>?_) (PySem.F.args_zip_next_1 _))))
 obtain ⟨o,ho,hc⟩:=he
 refine wpAny_bind (wpAny_isInstance (T:="StopIteration") (b:=true) ⟨o,ho,hc⟩ PySem.isSubtype_stop ?_)
 exact wpAny_pure (hQ _ hk)
theorem zip_loop {z TI TO i1 i2 l1 l2 S n0:Addr}{xs ys:Array Value}{R:Result→Shared→Prop} (hh:A.handled=none) (D:ZipApart z TI TO i1 i2 l1 l2) (hn:xs.size≤sizeLine) (hl:ys.size=xs.size)
  (hSz:S≠z) (hSTO:S≠TO) (hS1:S≠i1) (hS2:S≠i2) (hSTI:S≠TI) (hSl1:S≠l1) (hSl2:S≠l2) :
  ∀ (k i:Nat) (s:Shared) (acc:Array Value) (c:Nat),xs.size - i=k→i≤xs.size →
  s.heap.objs.size=n0+i→acc=((List.range i).map fun j=>Value.ref (n0+j)).toArray→(∀ (j:Nat) (x y:Value),j<i→xs[j]?=some x→ys[j]?=some y→IsPair s.heap (n0+j) x y) →
  ((i=0∧IsZip s.heap z TI TO .none)∨(0<i∧∃ b,ZipR s.heap z TI TO n0 b))→IsPair s.heap TI (.ref i1) (.ref i2)→(i=0→∃ a b,IsPair s.heap TO a b) →
  s.heap.IsListIter i1 l1 i→s.heap.IsListIter i2 l2 i→s.heap.IsList l1 xs→s.heap.IsList l2 ys →
  s.heap.get? S=some { cls:=.type "list",dict:=none,data:=.seq acc c,slots:=#[] }→(∀ b,b=z∨b=TO∨b=i1∨b=i2∨b=S∨b=TI→b<n0) →
  (∀ h' c',(∀ b o,b<n0→b≠z→b≠TO→b≠i1→b≠i2→b≠S→s.heap.get? b=some o→h'.get? b=some o)→(∀ (j:Nat) (x y:Value),xs[j]?=some x→ys[j]?=some y→IsPair h' (n0+j) x y) →
   h'.get? S=some { cls:=.type "list",dict:=none,data:=.seq ((List.range xs.size).map fun j=>Value.ref (n0+j)).toArray c',slots:=#[] }→R (.ok (.ret .none)) { s with heap:=h' }) →
  codeAny (model prog w) A (.builtin "list.extend.loop" ⟨[.ref S,.ref z,.none],[]⟩) R s:=by
 intro k
 induction k with
 | zero =>
  intro i s acc c hk hi hsz hacc htup hzp hTI hTO h1 h2 hl1 hl2 hS hlt hR
  have hin:i=xs.size:=by omega
  refine codeAny_builtin PySem.F.entry_extend_loop ?_
  rw [Around.under_plainId PySem.F.plain_extend_loop _]
  show wpAny _ A.in1 (pyNext (.ref z) >>= _) _ _ s
  refine wpAny_bind ?_
  have hx:xs[i]?=none:=Array.getElem?_eq_none (by omega)
  have fin:∀ h',(∀ c o,c≠z→c≠TO→c≠i1→c≠i2→s.heap.get? c=some o→h'.get? c=some o)→R (.ok (.ret .none)) { s with heap:=h' }:=fun h' hk'=>by
   refine hR h' c (fun b o hb b1 b2 b3 b4 b5 e=>hk' b o b1 b2 b3 b4 e) (fun j x y e1 e2=>?_) ?_
   ·have hj:j<i:=by have:=(Array.getElem?_eq_some_iff.mp e1).1;omega
    have ne:∀ b,b=z∨b=TO∨b=i1∨b=i2∨b=S∨b=TI→n0+j≠b:=fun b hb=>Nat.ne_of_gt (Nat.lt_of_lt_of_le (hlt b hb) (Nat.le_add_right _ _))
    exact hk' _ _ (ne z (by simp)) (ne TO (by simp)) (ne i1 (by simp)) (ne i2 (by simp)) (htup j x y hj e1 e2)
   ·rw [← hin,← hacc]
    exact hk' S _ hSz hSTO hS1 hS2 hS
  rcases hzp with ⟨h0,hz⟩ | ⟨h0,b,hz⟩
  ·obtain ⟨a,b,hTO⟩:=hTO h0
   refine wpAny_pyNext_zip_end hh D hz hTI hTO h1 h2 hl1 hl2 (.inl hx) fun h' hk'=>wpAny_pure (fin h' hk')
  ·obtain ⟨x0,hx0⟩:∃ x0,xs[0]?=some x0:=⟨xs[0],Array.getElem?_eq_getElem (by omega)⟩
   obtain ⟨y0,hy0⟩:∃ y0,ys[0]?=some y0:=⟨ys[0],Array.getElem?_eq_getElem (by omega)⟩
   have hT:=htup 0 x0 y0 h0 hx0 hy0
   rw [Nat.add_zero] at hT
   exact next_end2 (k2:=i) (ys:=ys) hh D hz hT hTI h1 hl1 hx fun h' hk'=>wpAny_pure (fin h' fun c o c1 _ c3 c4 e=>hk' c o c1 c3 c4 e)
 | succ k ih =>
  intro i s acc c hk hi hsz hacc htup hzp hTI hTO h1 h2 hl1 hl2 hS hlt hR
  have hlt':i<xs.size:=by omega
  obtain ⟨x,hx⟩:∃ x,xs[i]?=some x:=⟨xs[i],Array.getElem?_eq_getElem hlt'⟩
  have hly:i<ys.size:=by rw [hl];exact hlt'
  obtain ⟨y,hy⟩:∃ y,ys[i]?=some y:=⟨ys[i],Array.getElem?_eq_getElem hly⟩
  have ne:∀ (j:Nat) b,b=z∨b=TO∨b=i1∨b=i2∨b=S∨b=TI→n0+j≠b:=fun j b hb=>Nat.ne_of_gt (Nat.lt_of_lt_of_le (hlt b hb) (Nat.le_add_right _ _))
  have accsz:acc.size=i:=by rw [hacc];simp
  refine codeAny_builtin PySem.F.entry_extend_loop ?_
  rw [Around.under_plainId PySem.F.plain_extend_loop _]
  show wpAny _ A.in1 (pyNext (.ref z) >>= _) _ _ s
  refine wpAny_bind ?_
  have fin:∀ h',(∃ b,ZipR h' z TI TO n0 b)→h'.IsListIter i1 l1 (i+1)→h'.IsListIter i2 l2 (i+1)→IsPair h' s.heap.objs.size x y→h'.objs.size=s.heap.objs.size+1 →
    (∀ c o,c≠z→c≠TO→c≠i1→c≠i2→s.heap.get? c=some o→h'.get? c=some o) →
    wpAny (model prog w) A.in1 (updateSeq S (·.push (.ref s.heap.objs.size)) >>= fun _=>again (.builtin "list.extend.loop" ⟨[.ref S,.ref z,.none],[]⟩))
     (fun fin s'=>match fin with | .done f=>R (.ok f) s' | .again c'=>c'.quiet=true∧codeAny (model prog w) A c' R s') (fun e s'=>R (.error e) s') { s with heap:=h' }:=by
   rintro h' ⟨b,hz'⟩ h1' h2' hT' hsz' hk'
   have hS':=hk' S _ hSz hSTO hS1 hS2 hS
   refine wpAny_bind ?_
   have oth:∀ c o,c≠S→h'.get? c=some o→(h'.update S (Obj.mapSeq (·.push (.ref s.heap.objs.size)))).get? c=some o:=fun c o hc e=>(Heap.get?_update_other _ _ (Ne.symm hc)).trans e
   have hacc':acc.push (.ref s.heap.objs.size)=((List.range (i+1)).map fun j=>Value.ref (n0+j)).toArray:=by
    rw [hacc,hsz,List.range_succ];simp
   refine wpAny_updateSeq hS' rfl (wpAny_pure ⟨plainId_quiet PySem.F.plain_extend_loop _,ih (i+1) _ (acc.push (.ref s.heap.objs.size)) _ (by omega) hlt' ?_ hacc' ?_ (.inr ⟨Nat.succ_pos _,b,oth _ _ (Ne.symm hSz) hz'⟩) (oth _ _ (Ne.symm hSTI) (hk' _ _ D.TIz D.TITO D.TIi1 D.TIi2 hTI))
    (fun h=>absurd h (Nat.succ_ne_zero _)) (h1'.at fun o e=>oth _ o (Ne.symm hS1) e) (h2'.at fun o e=>oth _ o (Ne.symm hS2) e) (hl1.at fun o e=>oth _ o (Ne.symm hSl1) (hk' _ o D.l1z D.l1TO D.l1i1 D.l1i2 e)) (hl2.at fun o e=>oth _ o (Ne.symm hSl2) (hk' _ o D.l2z D.l2TO D.l2i1 D.l2i2 e))
    (Heap.get?_update_self _ hS' rfl) hlt ?_⟩)
    (by rw [accsz];omega) (by show (acc.push _).size≤sizeLine+1;rw [Array.size_push,accsz];omega)
   ·show (h'.update _ _).objs.size=_
    rw [Heap.size_update,hsz',hsz];rfl
   ·intro j x' y' hj e1 e2
    by_cases e:j=i
    ·subst e
     rw [hx] at e1;rw [hy] at e2;cases e1;cases e2
     rw [← hsz]
     exact oth _ _ (by rw [hsz];exact ne j S (by simp)) hT'
    ·exact oth _ _ (ne j S (by simp)) (hk' _ _ (ne j z (by simp)) (ne j TO (by simp)) (ne j i1 (by simp)) (ne j i2 (by simp)) (htup j x' y' (by omega) e1 e2))
   ·intro h'' c'' hk'' ht'' hS''
    exact hR h'' c'' (fun b o hb b1 b2 b3 b4 b5 e=>hk'' b o hb b1 b2 b3 b4 b5 (oth b o b5 (hk' b o b1 b2 b3 b4 e))) ht'' hS''
  rcases hzp with ⟨h0,hz⟩ | ⟨h0,b,hz⟩
  ·obtain ⟨a,b,hTO⟩:=hTO h0
   refine wpAny_pyNext_zip_item D hz hTI hTO h1 h2 hl1 hl2 hx hy fun h' a1 a2 a3 a4 a5 a6 hk'=>fin h' ⟨false,?_⟩ a3 a4 a5 a6 hk'
   have e:n0=s.heap.objs.size:=by rw [hsz,h0];rfl
   rw [e];exact a1
  ·obtain ⟨x0,hx0⟩:∃ x0,xs[0]?=some x0:=⟨xs[0],Array.getElem?_eq_getElem (by omega)⟩
   obtain ⟨y0,hy0⟩:∃ y0,ys[0]?=some y0:=⟨ys[0],Array.getElem?_eq_getElem (by omega)⟩
   have hT:=htup 0 x0 y0 h0 hx0 hy0
   rw [Nat.add_zero] at hT
   exact next_again D hz hT hTI h1 h2 hl1 hl2 hx hy fun h' a1 a3 a4 a5 a6 hk'=>fin h' ⟨true,a1⟩ a3 a4 a5 a6 fun c o c1 _ c3 c4 e=>hk' c o c1 c3 c4 e
end
theorem zip_nolen:typeLookup (.type "zip") "__len__"=pure none:=by rw [typeLookup_type,builtinLookup_eq_fast];kernel_rfl
theorem zip_nohint:typeLookup (.type "zip") "__length_hint__"=pure none:=by rw [typeLookup_type,builtinLookup_eq_fast];kernel_rfl
section
variable {prog:Program}{w:World}{A:Around}{E:Value→Shared→Prop}{s:Shared}
theorem zip_hint {r:Addr}{Q:Bool→Shared→Prop} (hT:s.TypeIs (.ref r) "zip") (h:Q true s):wpAny (model prog w) A (Builtin.List.listLengthHint (.ref r)) Q E s:=by
 unfold Builtin.List.listLengthHint
 refine wpAny_bind (wpAny_specialOf hT zip_nolen ?_)
 show wpAny _ _ (specialOf (Value.ref r) (Str.ofString "__length_hint__") >>= _) _ _ _
 refine wpAny_bind (wpAny_specialOf hT zip_nohint ?_)
 exact wpAny_pure h
theorem list_zip {z TI TO i1 i2 l1 l2:Addr}{xs ys:Array Value}{Q:Value→Shared→Prop} (hh:A.handled=none) (D:ZipApart z TI TO i1 i2 l1 l2) (hn:xs.size≤sizeLine) (hl:ys.size=xs.size)
  (hz:IsZip s.heap z TI TO .none) (hTI:IsPair s.heap TI (.ref i1) (.ref i2)) (hTO:∃ a b,IsPair s.heap TO a b) (h1:s.heap.IsListIter i1 l1 0) (h2:s.heap.IsListIter i2 l2 0) (hl1:s.heap.IsList l1 xs) (hl2:s.heap.IsList l2 ys)
  (hQ:∀ h' c',(∀ b o,b<s.heap.objs.size→b≠z→b≠TO→b≠i1→b≠i2→s.heap.get? b=some o→h'.get? b=some o)→(∀ (j:Nat) (x y:Value),xs[j]?=some x→ys[j]?=some y→IsPair h' (s.heap.objs.size+1+j) x y) →
   h'.get? s.heap.objs.size=some { cls:=.type "list",dict:=none,data:=.seq ((List.range xs.size).map fun j=>Value.ref (s.heap.objs.size+1+j)).toArray c',slots:=#[] }→Q (.ref s.heap.objs.size) { s with heap:=h' }) :
  wpAny (model prog w) A (call (.type "list") [.ref z]) Q E s:=by
 refine callType_codes (Q₁:=fun obj s₁=>obj=.ref s.heap.objs.size∧s₁={ s with heap:=s.heap.push { cls:=.type "list",data:=.seq #[] } }) PySem.F.called_list (PySem.F.typeCall_list_1 _) PySem.F.entry_list_init
  (code_list_new _ ⟨rfl,rfl⟩) fun obj s₁ h₁=>?_
 obtain ⟨rfl,rfl⟩:=h₁
 have hS:(s.heap.push { cls:=.type "list",data:=.seq #[] }).get? s.heap.objs.size=some { cls:=.type "list",data:=.seq #[] }:=Heap.get?_push_size _ rfl
 have lt:∀ {b o},s.heap.get? b=some o→b<s.heap.objs.size:=fun e=>Heap.lt_size e
 have nez:∀ {b o},s.heap.get? b=some o→s.heap.objs.size≠b:=fun e=>Nat.ne_of_gt (lt e)
 obtain ⟨a,b,hTO⟩:=hTO
 obtain ⟨o1,e1,c1⟩:=id h1
 obtain ⟨o2,e2,c2⟩:=id h2
 obtain ⟨o3,e3,c3⟩:=id hl1
 obtain ⟨o4,e4,c4⟩:=id hl2
 refine ⟨⟨_,hS,rfl⟩,PySem.F.args_list_init_2 _ _,?_⟩
 show wpAny _ _ (do let old ← Builtin.List.listItems (.ref s.heap.objs.size);Builtin.List.listUpdate (.ref s.heap.objs.size) (fun _=>#[]);letGo old.toList.reverse;Builtin.List.listExtendWith (.ref s.heap.objs.size) (.ref z) .none) _ _ _
 refine wpAny_bind ?_
 unfold Builtin.List.listItems
 refine wpAny_bind (wpAny_seqItems hS rfl (wpAny_pure ?_))
 show wpAny _ _ (updateSeq s.heap.objs.size (fun _=>#[]) >>= fun _=>letGo (#[]:Array Value).toList.reverse >>= fun _=>Builtin.List.listExtendWith (.ref s.heap.objs.size) (.ref z) .none) _ _ _
 refine wpAny_bind (wpAny_updateSeq hS rfl ?_)
 have hS₂:=Heap.get?_update_self (Obj.mapSeq (fun _=>(#[]:Array Value))) hS rfl
 have oth:∀ b o,s.heap.get? b=some o→((s.heap.push { cls:=.type "list",data:=.seq #[] }).update s.heap.objs.size (Obj.mapSeq (fun _=>(#[]:Array Value)))).get? b=some o :=
  fun b o e=>(Heap.get?_update_other _ _ (nez e)).trans (Heap.get?_push_of_some _ e)
 refine wpAny_bind (wpAny_letGo ?_)
 unfold Builtin.List.listExtendWith
 have hTy:({ s with heap:=(s.heap.push { cls:=.type "list",data:=.seq #[] }).update s.heap.objs.size (Obj.mapSeq (fun _=>(#[]:Array Value))) }:Shared).TypeIs (.ref z) "zip":=⟨_,oth _ _ hz,rfl⟩
 refine wpAny_bind (wpAny_typeOf (T:="zip") hTy ?_)
 have hsr:Builtin.List.listSameRef (.ref s.heap.objs.size) (.ref z)=false:=by simp [Builtin.List.listSameRef,nez hz]
 have hnl:(Value.type "zip" == Value.type "list")=false:=by decide
 have hnt:(Value.type "zip" == Value.type "tuple")=false:=by decide
 simp only [hsr,hnl,hnt,Bool.or_false,Bool.false_eq_true,if_false]
 refine wpAny_bind (wpAny_pyIter_zip (TI:=TI) (TO:=TO) (f0:=.none) (oth _ _ hz) ?_)
 refine wpAny_bind (wpAny_holding (zip_hint hTy ?_))
 rw [Bool.true_or,if_pos rfl]
 refine wpAny_bind (wpAny_rule ?_)
 refine wpAny_bind ?_
 show wpAny _ _ (updateSeq s.heap.objs.size (·.push .none) >>= fun _=>updateSeq s.heap.objs.size (·.pop)) _ _ _
 refine wpAny_bind (wpAny_updateSeq hS₂ rfl ?_)
 have hS₃:=Heap.get?_update_self (Obj.mapSeq (·.push Value.none)) hS₂ rfl
 refine wpAny_updateSeq (hz:=by seq_fits) hS₃ rfl ?_
 have hS₄:=Heap.get?_update_self (Obj.mapSeq (·.pop)) hS₃ rfl
 generalize hh4:((((s.heap.push { cls:=.type "list",data:=.seq #[] }).update s.heap.objs.size (Obj.mapSeq (fun _=>(#[]:Array Value)))).update s.heap.objs.size (Obj.mapSeq (·.push Value.none))).update s.heap.objs.size (Obj.mapSeq (·.pop)))=h4 at hS₄ ⊢
 have oth4:∀ b o,s.heap.get? b=some o→h4.get? b=some o:=fun b o e=>by
  rw [← hh4]
  exact (Heap.get?_update_other _ _ (nez e)).trans ((Heap.get?_update_other _ _ (nez e)).trans (oth b o e))
 have hss4:h4.objs.size=s.heap.objs.size+1:=by rw [← hh4,Heap.size_update,Heap.size_update,Heap.size_update,size_push']
 have hss:((s.heap.push { cls:=.type "list",data:=.seq #[] }).update s.heap.objs.size (Obj.mapSeq (fun _=>(#[]:Array Value)))).objs.size=s.heap.objs.size+1:=by rw [Heap.size_update,size_push']
 refine wpAny_pure ⟨plainId_quiet PySem.F.plain_extend_loop _,zip_loop (n0:=s.heap.objs.size+1) (A:=A.in1) hh D hn hl (nez hz) (nez hTO) (nez e1) (nez e2) (nez hTI) (nez e3) (nez e4) xs.size 0 _ #[] _ rfl (Nat.zero_le _) hss4 rfl (fun j x y hj=>absurd hj (Nat.not_lt_zero _)) (.inl ⟨rfl,oth4 _ _ hz⟩) (oth4 _ _ hTI) (fun _=>⟨a,b,oth4 _ _ hTO⟩)
  (h1.at fun o e=>oth4 _ o e) (h2.at fun o e=>oth4 _ o e) (hl1.at fun o e=>oth4 _ o e) (hl2.at fun o e=>oth4 _ o e) hS₄ (fun b hb=>?_) fun h' c' hk ht hS'=>?_⟩
 ·rcases hb with rfl | rfl | rfl | rfl | rfl | rfl
  ·exact Nat.lt_succ_of_lt (lt hz)
  ·exact Nat.lt_succ_of_lt (lt hTO)
  ·exact Nat.lt_succ_of_lt (lt e1)
  ·exact Nat.lt_succ_of_lt (lt e2)
  ·exact Nat.lt_succ_self _
  ·exact Nat.lt_succ_of_lt (lt hTI)
 ·exact ⟨rfl,hQ h' c' (fun b o hb b1 b2 b3 b4 e=>hk b o (Nat.lt_succ_of_lt hb) b1 b2 b3 b4 (Nat.ne_of_lt hb) (oth4 b o e)) ht hS'⟩
end
section
variable {X:Cx}{pins:List (Addr × Obj)}{σ:L2.St}{H H2:Hp}{s:Shared}{h':Heap}
theorem laidAll {t':Nat} (I:Inv X pins σ H s) (k:∀ b u,s.heap.get? b=some u→h'.get? b=some u) (same:∀ b u,s.heap.get? b=some u→H2 b=H b)
  (new:∀ b o,H2 b=some o→s.heap.get? b=none→ObjOk X.prog X.w H2 h' b o):Inv X pins σ H2 { s with heap:=h',toks:=t' }:=by
 have ext:∀ b o,H b=some o→H2 b=some o:=fun b o e=>by
  obtain ⟨ob,q⟩:=okObj (I.hok b o e)
  rw [same b ob q];exact e
 refine I.un (t':=t') ⟨fun b u q _ _ _=>k b u q,fun b u q _ _ _=>⟨u.slots,k b u q⟩,fun b u q n _=>by rw [same b u q];exact n,fun b u q _=>⟨u,k b u q⟩,fun b xs q=>ext b _ q,
  fun b u xs q=>ext b _ q,fun b ps q=>⟨#[],by rw [ext b _ q];simp⟩⟩ fun b o e=>?_
 cases q:s.heap.get? b with
 | none=>exact new b o e q
 | some u =>
  rw [same b u q] at e
  exact (I.hok b o e).stay (fun c v _ q=>k c v q) (fun c q=>ext c _ q) fun c xs q=>ext c _ q
end
section
variable {X:Cx}
def tDVals (td:TE):TE:=fun σ H Q=>td σ H fun x H1=>∃ d kvs,x=.ref d∧H1 d=some (.dK kvs)∧∀ v,H1 v=none→Q (.ref v) (upd H1 v (.ext fun h=>h.IsValuesView v d))
theorem pe_dvals {e:Expr}{td:TE}{apos cpos:Pos} (he:PE X e td) (hbase:attributeBase e "values" X.env (eval e X.env)=eval e X.env:=by rfl) (hline:(apos.endLine == cpos.line)=true:=by rfl) :
  PE X (.Call (.Attribute e "values" apos) [] [] cpos) (tDVals td):=by
 intro pins s σ H Q I h
 refine wpAny_Call_method (T:="dict") (id:="dict.values") hbase rfl hline F.plainAttrs_dict F.slot_dict_values F.type_dict_values (thn (he pins s σ H _ I h) fun u s1 ⟨x,H1,I1,rx,d,kvs,ex,hd,q⟩=>?_)
 subst ex
 obtain rfl:u=Value.ref d:=rx
 obtain ⟨hz,hs,ws,kv,hD⟩:=I1.hok d _ hd
 refine ⟨hD.typeIs,hD.mapOf.noDict,?_⟩
 show wpAny _ _ (callWith cpos (.builtin "dict.values") [.ref d] [] []) _ X.xe s1
 refine method_meetsIn F.slot_dict_values F.entry_dict_values rfl (PySem.evalArgs_none ⟨rfl,hD.typeIs,F.args_dict_values_1 _,_,meets_dict_values (mixKind X.prog X.w) d hs,⟨ws,hD⟩,?_⟩)
 refine ⟨.ref s1.heap.objs.size,_,I1.laid (t':=s1.toks) (o:=.ext fun h=>h.IsValuesView s1.heap.objs.size d) (fun b ob q=>Heap.get?_push_of_some _ q) (Nat.le_refl _) ⟨⟨_,Heap.get?_push_size _ rfl,rfl,rfl⟩,⟨_,Heap.get?_push_size _ rfl⟩,fun h1 h2 ⟨o,e1,e2⟩ k=>⟨o,k o e1,e2⟩⟩,rfl,q _ (I1.hok.fresh (Nat.le_refl _))⟩
def rListVals:List V→Hp→VK→Prop:=fun xs H Q=>∃ v d kvs,xs=[V.ref v]∧H v=some (.ext fun h=>h.IsValuesView v d)∧H d=some (.dK kvs)∧∀ p,H p=none→Q (.ref p) (upd H p (.lst (kvs.map (·.2))))
theorem kv_snd {κ:Type}:∀ {kvs:List (κ × V)}{ws:List (κ × Value)},KV kvs ws→Vals (kvs.map (·.2)) (ws.map (·.2))
 | _,_,.nil=>.nil
 | _,_,.cons r t=>.cons r.2 (kv_snd t)
theorem call_listVals (hc:X.calm=true):CallR X (.type "list") rListVals:=by
 intro pins s σ H vs us Q I r h
 obtain ⟨v,d,kvs,rfl,hv,hd,q⟩:=h
 rw [Vals.ref1 r]
 obtain ⟨hz,hs,ws,kv,hD⟩:=I.hok d _ hd
 obtain ⟨hvw,_,_⟩:=I.hok v _ hv
 obtain ⟨ep,hat⟩:=hD.dictAt
 have hl:kvs.length=ws.length:=Paired.length kv
 refine PySem.W.kdl_call (PySem.W.kdl_values (knd:=mixKind X.prog X.w) (kvs:=ws) (ep:=ep)) (I.ok.hd hc) ⟨hvw,hat⟩ (by rw [← hl];exact hz) fun h' tk acc c hk hD' hacc=>?_
 have e:acc.toList=ws.map (·.2):=PySem.W.kdl_vals_eq acc.toList (by rw [Array.length_toList];exact hacc.1) fun j u hu=>hacc.2 j u (by rw [← Array.getElem?_toList];exact hu)
 refine ⟨.ref _,upd H s.heap.objs.size (.lst (kvs.map (·.2))),I.laid (t':=tk) hk (Nat.le_refl _) ⟨by rw [List.length_map];exact hz,acc.toList,c,by rw [e];exact kv_snd kv,by rw [Array.toArray_toList];exact hD'⟩,rfl,q _ (I.hok.fresh (Nat.le_refl _))⟩
def tLZ (K:PySem.W.Frag) (ta:TA):TE:=fun σ H Q=>ta σ H fun vs H1=>∃ a b xs ys,vs=[.ref a,.ref b]∧SqL K H1 a xs∧SqL K H1 b ys∧xs.length=ys.length ∧
 ∀ (p:Addr) (ts:List Addr) (H2:Hp),H1 p=none→ts.length=xs.length→(∀ t∈ts,H1 t=none∧t≠p)→(∀ (j:Nat) (t:Addr) (x y:V),ts[j]?=some t→xs[j]?=some x→ys[j]?=some y→H2 t=some (.tup [x,y])) →
  H2 p=some (.lst (ts.map V.ref))→(∀ c,H1 c≠none→H2 c=H1 c)→Q (.ref p) H2
theorem pe_listZip {e e2:Expr}{ta:TA}{p p2 pos zpos:Pos} (hc:X.calm=true) (hgl:Gl X "list") (hml:X.mg "list"=none) (hvl:bootBuiltins "list"=some (.type "list")) (hg:Gl X "zip") (hm:X.mg "zip"=none) (ha:PA X [e,e2] ta)
  (hs:starEach [e,e2] X.env=(false,eval e X.env)::starEach [e2] X.env:=by rfl) (hpl:(backTo zpos (starEach [e2] X.env)).any (·.1)=false:=by rfl)
  (hs2:starEach [.Call (.Name "zip" p2) [e,e2] [] zpos] X.env=[(false,eval (.Call (.Name "zip" p2) [e,e2] [] zpos) X.env)]:=by rfl) :
  PE X (.Call (.Name "list" p) [.Call (.Name "zip" p2) [e,e2] [] zpos] [] pos) (tLZ X.K ta):=by
 intro pins s σ H Q I h
 refine wpAny_Call_Name_kw (ld_blt I hgl hml hvl ?_)
 refine PyProof.Rows.callWith_type1 (rest:=[]) ?_ hs2 rfl
 rw [hs2]
 refine Calls.spliced_cons (Call_ (ld_blt I hg hm boot_zip5 (PyProof.Rows.callWith_type1 (thn (ha zpos pins s σ H _ I h) fun us s1 ⟨vs,H1,I1,r1,q1⟩=>?_) hs hpl)))
 obtain ⟨a,b,xs,ys,ex,hqx,hqy,hlen,q⟩:=q1
 subst ex
 cases r1 with
 | cons r rr =>
  cases rr with
  | cons r' rr =>
   cases rr
   cases r
   cases r'
   obtain ⟨its,rv,p1,hz1⟩:=I1.list hqx
   obtain ⟨its2,rv2,p2',hz2⟩:=I1.list hqy
   have la:a<s1.heap.objs.size:=p1.lt
   have lb:b<s1.heap.objs.size:=p2'.lt
   have l1:=rv.length
   have l2:=rv2.length
   refine call_zip_2 p1.isList p2'.isList fun h' hz hTI hTO h1 h2 hsz hk=>Calls.spliced_nil ?_
   have I2:Inv X pins σ H1 { s1 with heap:=h' }:=I1.kept (t':=s1.toks) hk
   refine list_zip (s:={ s1 with heap:=h' }) (I.ok.hd hc) (PySem.W.ktu_apart s1.heap.objs.size a b la lb) (by rw [List.size_toArray];omega) (by rw [List.size_toArray,List.size_toArray];omega) hz hTI ⟨_,_,hTO⟩ h1 h2
    (p1.isList.at fun o e=>hk _ o e) (p2'.isList.at fun o e=>hk _ o e) fun h'' c' hk'' ht hD=>?_
   have hszz:({ s1 with heap:=h' }:Shared).heap.objs.size=s1.heap.objs.size+5:=hsz
   rw [hszz] at hk'' ht hD ⊢
   generalize hP:s1.heap.objs.size+5=P at hk'' ht hD ⊢
   have lP:s1.heap.objs.size<P:=by rw [← hP];exact Nat.lt_add_of_pos_right (by decide)
   have keep:∀ b u,s1.heap.get? b=some u→h''.get? b=some u:=fun b u e=>by
    have hb:=Heap.lt_size e
    exact hk'' b u (Nat.lt_trans hb lP) (Nat.ne_of_lt (Nat.lt_of_lt_of_le hb (Nat.le_add_right _ _))) (Nat.ne_of_lt (Nat.lt_of_lt_of_le hb (Nat.le_add_right _ _))) (Nat.ne_of_lt hb) (Nat.ne_of_lt (Nat.lt_of_lt_of_le hb (Nat.le_add_right _ _))) (hk b u e)
   let H2:Hp:=fun c=>if c=P then some (.lst ((List.range xs.length).map fun j=>V.ref (P+1+j))) else if P<c∧c<P+1+xs.length then some (.tup [xs.getD (c - (P+1)) .non,ys.getD (c - (P+1)) .non]) else H1 c
   have hP2:H2 P=some (.lst ((List.range xs.length).map fun j=>V.ref (P+1+j))):=if_pos rfl
   have hT2:∀ j,j<xs.length→H2 (P+1+j)=some (.tup [xs.getD j .non,ys.getD j .non]):=fun j hj=>by
    show (if P+1+j=P then _ else _)=_
    rw [if_neg (Nat.ne_of_gt (Nat.lt_of_lt_of_le (Nat.lt_succ_self P) (Nat.le_add_right _ _))),if_pos ⟨Nat.lt_of_lt_of_le (Nat.lt_succ_self P) (Nat.le_add_right _ _),Nat.add_lt_add_left hj _⟩,Nat.add_sub_cancel_left]
   have hO2:∀ c,c<P→H2 c=H1 c:=fun c hc=>by
    show (if c=P then _ else _)=_
    rw [if_neg (Nat.ne_of_lt hc),if_neg fun z=>Nat.lt_asymm hc z.1]
   have hnP:∀ c,P≤c→H1 c=none:=fun c hc=>I1.hok.fresh (Nat.le_trans (Nat.le_of_lt lP) hc)
   have hgd:∀ j x,xs[j]?=some x→xs.getD j .non=x:=fun j x e=>by simp [e]
   have hgd2:∀ j x,ys[j]?=some x→ys.getD j .non=x:=fun j x e=>by simp [e]
   have szx:its.toArray.size=xs.length:=by rw [List.size_toArray];exact l1.symm
   rw [szx] at hD
   have I3:Inv X pins σ H2 { s1 with heap:=h'' }:=by
    refine laidAll (t':=s1.toks) I1 keep (fun b u e=>hO2 b (Nat.lt_trans (Heap.lt_size e) lP)) fun b o e hn=>?_
    by_cases hb:b=P
    ·subst hb
     rw [hP2] at e;cases e
     refine ⟨by rw [List.length_map,List.length_range];exact hz1,_,c',?_,hD⟩
     have:=vals_refs ((List.range xs.length).map fun j=>b+1+j)
     rw [List.map_map,List.map_map] at this
     exact this
    ·by_cases hb2:P<b∧b<P+1+xs.length
     ·obtain ⟨j,rfl⟩:∃ j,b=P+1+j:=⟨b - (P+1),(Nat.add_sub_cancel' hb2.1).symm⟩
      have hj:j<xs.length:=Nat.lt_of_add_lt_add_left hb2.2
      rw [hT2 j hj] at e;cases e
      have ex:xs[j]?=some xs[j]:=List.getElem?_eq_getElem hj
      have hjy:j<ys.length:=by rw [← hlen];exact hj
      have ey:ys[j]?=some ys[j]:=List.getElem?_eq_getElem hjy
      obtain ⟨u,hu,ru⟩:=rv.get ex
      obtain ⟨u2,hu2,ru2⟩:=rv2.get ey
      rw [hgd j _ ex,hgd2 j _ ey]
      exact ⟨by show 2≤sizeLine;decide,[u,u2],.cons ru (.cons ru2 .nil),⟨_,ht j u u2 (by simpa using hu) (by simpa using hu2),rfl,_,rfl⟩⟩
     ·have e':H1 b=some o:=by
       have:H2 b=H1 b:=by
        show (if b=P then _ else _)=_
        rw [if_neg hb,if_neg hb2]
       rw [← this];exact e
      obtain ⟨ob,q⟩:=okObj (I1.hok b o e')
      rw [hn] at q;cases q
   refine ⟨.ref P,H2,I3,rfl,q P ((List.range xs.length).map fun j=>P+1+j) H2 (hnP P (Nat.le_refl _)) (by simp) (fun t ht'=>?_) (fun j t x y e1 e2 e3=>?_) (by rw [hP2,List.map_map];rfl) fun c hc=>?_⟩
   ·obtain ⟨j,_,rfl⟩:=List.mem_map.mp ht'
    exact ⟨hnP _ (Nat.le_of_lt (Nat.lt_of_lt_of_le (Nat.lt_succ_self P) (Nat.le_add_right _ _))),Nat.ne_of_gt (Nat.lt_of_lt_of_le (Nat.lt_succ_self P) (Nat.le_add_right _ _))⟩
   ·have hj:=(List.getElem?_eq_some_iff.mp e2).1
    rw [List.getElem?_map,List.getElem?_range hj] at e1
    cases e1
    rw [hT2 j hj,hgd j x e2,hgd2 j y e3]
   ·refine hO2 c (Nat.lt_of_not_le fun hle=>hc (hnP c hle))
def tFmt (tv:TE):TE:=fun σ H Q=>tv σ H fun x H1=>(∃ a,x=.str a∧a.length≤sizeLine∧Q (.str a) H1)∨∃ i,x=.int i∧i.natAbs.log2<1920∧Q (.str (toString i)) H1
theorem pe_fmt {e:Expr}{te:TE}{pos:Pos} (he:PE X e te):PE X (.FormattedValue e (-1) none pos) (tFmt te):=by
 intro pins s σ H Q I h
 refine FormattedValue_plain (thn (he pins s σ H _ I h) fun u s1 ⟨x,H1,I1,rx,q⟩=>?_)
 rcases q with ⟨a,rfl,hz,q⟩ | ⟨i,rfl,hz,q⟩
 ·obtain ⟨t,rfl⟩:=rx
  exact formatField_str (fun t' tk=>⟨.str a,H1,I1.tok _,⟨_,rfl⟩,q⟩) hz
 ·obtain ⟨t,rfl⟩:=rx
  exact formatField_int_small hz ⟨.str _,H1,I1.tok _,⟨_,rfl⟩,q⟩
def tJ:List TE→Str→TE
 | [],acc=>fun σ H Q=>acc.length≤sizeLine∧Q (.str acc) H
 | t::ts,acc=>fun σ H Q=>t σ H fun x H1=>∃ y,x=.str y∧(acc++y).length≤sizeLine∧tJ ts (acc++y) σ H1 Q
def PJ (X:Cx) (es:List Expr) (ts:List TE):Prop:=∀ (pins:List (Addr × Obj)) (s:Shared) (σ:L2.St) (H:Hp) (acc:Str) (Q:VK),Inv X pins σ H s→tJ ts acc σ H Q →
 Joins (model X.prog X.w) X.A X.xe (evalEach es X.env) acc (fun out s₁=>out.length≤sizeLine∧EP X pins σ Q (.str out s₁.toks) { s₁ with toks:=s₁.toks+1 }) s
theorem pj_nil:PJ X [] []:=fun pins s σ H acc Q I h=>⟨h.1,.str acc,H,I.tok _,⟨_,rfl⟩,h.2⟩
theorem pj_cons {e:Expr}{es:List Expr}{t:TE}{ts:List TE} (h1:PE X e t) (h2:PJ X es ts) (hs:evalEach (e::es) X.env=eval e X.env::evalEach es X.env:=by rfl):PJ X (e::es) (t::ts):=by
 intro pins s σ H acc Q I h
 rw [hs]
 refine thn (h1 pins s σ H _ I h) fun u s1 ⟨x,H1,I1,rx,y,ex,hz,q⟩=>?_
 subst ex
 obtain ⟨k,rfl⟩:=rx
 exact ⟨y,k,rfl,hz,h2 pins s1 σ H1 _ Q I1 q⟩
theorem pe_fstr {v₁ v₂:Expr}{rest:List Expr}{pos:Pos}{ts:List TE} (h:PJ X (v₁::v₂::rest) ts):PE X (.JoinedStr (v₁::v₂::rest) pos) (tJ ts Str.empty):=by
 intro pins s σ H Q I hq
 exact wpAny_JoinedStr (h pins s σ H _ Q I hq)
end
end Bk
namespace Bk
open PySem PySem.Spec PyProof.Rows L2
open PySem.W (kla_fn kla_obj tabObj CodeHd)
def KeyRd (P:Program) (w:World) (K:PySem.W.Frag) (body:Expr) (x:Str) (key:V→Hp→Int→Prop):Prop :=
 ∀ (A:Around) (E:Value→Shared→Prop) (s:Shared) (H:Hp) (env:Env) (m:Str→Option Value) (v:V) (u:Value) (k:Int) (Q:Value→Shared→Prop),
  env.scope.kind=.function→env.kindOf x=some .local→s.heap.Ns env.locals m→m x=some u→RelV v u→HOk P w H s.heap→K.In s.heap→key v H k →
  (∀ t tk,Q (.int k t) { s with toks:=tk })→wpAny (model P w) A (eval body env) Q E s
section
variable {P:Program}{w:World}{K:PySem.W.Frag}{x f:Str}{pos pos' pos2 pos3:Pos}
theorem key_fld (hd:(x == ("__debug__":Str))=false:=by decide) (hb:∀ env,attributeBase (.Name x pos') f env (eval (.Name x pos') env)=eval (.Name x pos') env:=by intro _;rfl) :
  KeyRd P w K (.Attribute (.Name x pos') f pos) x (fun v H k=>∃ a C dx fs,v=.ref a∧H a=some (.ins C dx fs)∧Cls K C∧NoAttr K C f∧fs.lookup f=some (.int k)):=by
 intro A E s H env m v u k Q hk hl hn hm rv hok hK ⟨a,C,dx,fs,ev,ha,c,n,l⟩ q
 subst ev
 obtain rfl:u=Value.ref a:=rv
 refine attr_of (hb env) (wpAny_Name (wpAny_loadName_local hk hl hn hm ?_) hd)
 obtain ⟨mA,O,r,_,_,_⟩:=ins_get hok ha
 obtain ⟨u,hu,ru⟩:=RelO.some_of (v:=V.int k) (o:=mA f) (by rw [← l];exact r f)
 obtain ⟨t,rfl⟩:=id ru
 exact get_map hK O (c.get f) c.hd n hu (handed_of ru) (q t _)
theorem key_neg {j:Nat} (hd:(x == ("__debug__":Str))=false:=by decide) :
  KeyRd P w K (.UnaryOp .USub (.Subscript (.Name x pos') (.Constant (.int 1) j pos2) pos) pos3) x (fun v H k=>∃ a xs,v=.ref a∧H a=some (.tup xs)∧xs[1]?=some (.int (-k))):=by
 intro A E s H env m v u k Q hk hl hn hm rv hok hK ⟨a,xs,ev,ha,hx⟩ q
 subst ev
 obtain rfl:u=Value.ref a:=rv
 obtain ⟨hz,its,r,pl⟩:=hok a _ ha
 obtain ⟨wv,ew,rw'⟩:=r.get hx
 obtain ⟨t,rfl⟩:=rw'
 have hlen:=r.length
 have h1:1<xs.length:=(List.getElem?_eq_some_iff.mp hx).1
 refine UnaryOp_ (Subscript_ (wpAny_Name (wpAny_loadName_local hk hl hn hm ?_) hd))
 refine wpAny_Constant_int ?_
 have hget:wpAny (model P w) A (getItem (.ref a) (.int 1 s.toks)) (fun r s'=>r=.int (-k) t∧(r=.int (-k) t∧s'={ s with toks:=s.toks+1 })) E { s with toks:=s.toks+1 } :=
  getItem_tuple (s:={ s with toks:=s.toks+1 }) (k:=1) (j:=1) (u:=s.toks) (x:=.int (-k) t) (Q:=fun r s'=>r=.int (-k) t∧(r=.int (-k) t∧s'={ s with toks:=s.toks+1 })) (items:=its.toArray) pl (by decide) (by decide) (by rw [List.size_toArray,← hlen];exact seqIndex_of (by decide) (by omega)) (by simpa using ew) ⟨rfl,rfl,rfl⟩
 refine wpAny_mono (subscriptTail_builtinR (s:={ s with toks:=s.toks+1 }) (o:=.ref a) (i:=.int 1 s.toks) (x:=.int (-k) t) (T:="tuple") pl.typeIs slot_tuple_getitem.lookup hget rfl) ?_ fun _ _ e=>e
 rintro r s' ⟨rfl,rfl⟩
 refine neg_int ?_
 rw [Int.neg_neg]
 exact q _ _
end
def LamTab (H:Hp) (P:Addr) (qual:Str) (lpos:Pos):Prop:=∃ ps,H P=some (.tbl ps)∧(ps=#[]∨∃ c',ps=#[rawInt lpos.line,rawInt lpos.col,.ref c']∧H c'=some (.ext fun h=>h.CodeRec (.ref c') qual))
structure BmOk (H:Hp) (mg:Str→Option Value) (bm:Addr):Prop where
 m:mg "__builtins__"=some (.ref bm)
 n1:bm≠builtinsNs
 n2:bm≠mainGlobals
 h:∃ ob:Obj,H bm=some (.ext fun h=>h.get? bm=some ob)∧ob.cls=.type "module"∧ob.dict=some builtinsNs∧ob.data=.plain
section
variable {X:Cx}{pins:List (Addr × Obj)}{σ:L2.St}{H H2:Hp}{s:Shared}{h':Heap}
theorem laidF {a:Addr}{o:HO}{t':Nat} (I:Inv X pins σ H s) (k:∀ b u,b≠X.env.locals→s.heap.get? b=some u→h'.get? b=some u) (ns:∀ m,s.heap.Ns X.env.locals m→h'.Ns X.env.locals m) (hn:s.heap.get? a=none)
  (new:ObjOk X.prog X.w (upd H a o) h' a o):Inv X pins σ (upd H a o) { s with heap:=h',toks:=t' }:=by
 have hf:=fresh_of I hn
 have ne:∀ b u,s.heap.get? b=some u→b≠a:=fun b u q z=>by rw [z,hn] at q;cases q
 have nL:∀ b o,H b=some o→b≠X.env.locals:=fun b o e z=>by rw [z,I.free] at e;cases e
 refine I.step (g':=s.gens) (t':=t') (d':=s.drawn) (ch:=[]) (fun _ z=>nomatch z) (fun b o hL _ _ e _=>k b o hL e) (fun b o hL _ _ e _=>⟨o.slots,k b o hL e⟩) (fun b o _ e n=>by rw [upd_ne (ne b o e)];exact n) (fun b o _ e=>?_)
  (fun b xs q=>by rw [upd_ne (ne_of_none q hf)];exact q) (fun b u xs q=>by rw [upd_ne (ne_of_none q hf)];exact q) (fun b ps q=>⟨#[],by rw [upd_ne (ne_of_none q hf),q];simp⟩) ns (fun b u e=>?_) I.bare
 ·by_cases hL:b=X.env.locals
  ·obtain ⟨m,hn,_⟩:=I.loc
   obtain ⟨o',_,_,e',_⟩:=ns m hn
   exact ⟨o',by rw [hL];exact e'⟩
  ·exact ⟨o,k b o hL e⟩
 ·by_cases hb:b=a
  ·subst hb;rw [upd_same] at e;cases e;exact new
  ·rw [upd_ne hb] at e
   refine (I.hok b u e).stay (fun c v hc q=>k c v ?_ q) (fun c q=>by rw [upd_ne (ne_of_none q hf)];exact q) fun c xs q=>by rw [upd_ne (ne_of_none q hf)];exact q
   rcases hc with rfl | hc
   ·exact nL c u e
   ·exact nL c _ hc
theorem grownT {P:Addr}{ps:Array Value}{t':Nat} (I:Inv X pins σ H s) (hP:H P=some (.tbl ps)) (k:∀ b u,b≠P→s.heap.get? b=some u→h'.get? b=some u) (hP':∃ more,H2 P=some (.tbl (ps++more))) (thP:∃ o,h'.get? P=some o)
  (same:∀ b u,b≠P→s.heap.get? b=some u→H2 b=H b) (hok:HOk X.prog X.w H2 h'):Inv X pins σ H2 { s with heap:=h',toks:=t' }:=by
 have nP:∀ b,H b=none→b≠P:=fun b e z=>by rw [z,hP] at e;cases e
 have ext:∀ b o,b≠P→H b=some o→H2 b=some o:=fun b o hb e=>by
  obtain ⟨ob,q⟩:=okObj (I.hok b o e)
  rw [same b ob hb q];exact e
 refine I.un (t':=t') ⟨fun b u q n _ _=>k b u (nP b n) q,fun b u q n _ _=>⟨u.slots,k b u (nP b n) q⟩,fun b u q n _=>by rw [same b u (nP b n) q];exact n,fun b u q _=>?_,fun b xs q=>ext b _ (fun z=>by rw [z,hP] at q;cases q) q,
  fun b u xs q=>ext b _ (fun z=>by rw [z,hP] at q;cases q) q,fun b qs q=>?_⟩ hok
 ·by_cases hb:b=P
  ·rw [hb];exact thP
  ·exact ⟨u,k b u hb q⟩
 ·by_cases hb:b=P
  ·subst hb;rw [hP] at q;cases q;exact hP'
  ·exact ⟨#[],by rw [ext b _ hb q];simp⟩
theorem ns_inj {h:Heap}{a:Addr}{m m':Str→Option Value} (x:h.Ns a m) (y:h.Ns a m'):m=m':=by
 obtain ⟨o,es,ep,e,d,_,f⟩:=x
 obtain ⟨o',es',ep',e',d',_,f'⟩:=y
 rw [e] at e';cases e'
 rw [d] at d';cases d'
 funext n
 rw [← f n,← f' n]
def vOf (u:Value):V:=(absV u).getD .non
theorem vOf_rel {x:V}{u:Value} (r:RelV x u):vOf u=x:=by unfold vOf;rw [r.abs];rfl
theorem zip_vOf:∀ {ys:List V}{vs:List Value} (ks:List Int),Vals ys vs→(ks.zip vs).map (fun p=>(p.1,vOf p.2))=ks.zip ys
 | _,_,[],_=>by simp
 | _,_,_::_,.nil=>by simp
 | _,_,k::ks,.cons r t=>by
  rw [List.zip_cons_cons,List.map_cons,List.zip_cons_cons,zip_vOf ks t,vOf_rel r]
theorem vals_vOf:∀ {us:List Value},(∀ u∈us,∃ x,RelV x u)→Vals (us.map vOf) us
 | [],_=>.nil
 | u::us,h=>by
  obtain ⟨x,r⟩:=h u List.mem_cons_self
  exact .cons (by rw [vOf_rel r];exact r) (vals_vOf fun y hy=>h y (List.mem_cons_of_mem _ hy))
theorem vals_ex:∀ {ys:List V}{vs:List Value},Vals ys vs→∀ u∈vs,∃ x,RelV x u
 | _,_,.nil,u,h=>by simp at h
 | _,_,.cons r t,u,h=>by
  rcases List.mem_cons.mp h with rfl | h
  ·exact ⟨_,r⟩
  ·exact vals_ex t u h
theorem sk_run {a f c':Addr}{ys:List V}{ks:List Int}{x qual:Str}{params:Arguments}{body:Expr}{scope:Scope}{pm ctv:Value}{key:V→Hp→Int→Prop}{Q:VK}
  (I:Inv X pins σ H s) (hr:Room 1 X.A) (hc:X.calm=true) (hq:SqL X.K H a ys) (hf:s.heap.get? f=some (kla_obj "<lambda>" qual params body scope [] pm c' ctv)) (fb:X.base.get? f=none) (fL:f≠X.env.locals) (hcd:s.heap.CodeRec (.ref c') qual) (cb:X.base.get? c'=none) (cL:c'≠X.env.locals)
  (hbind:∀ u,bindArgs (kla_fn "<lambda>" qual params body scope [] pm (.ref c') ctv) ⟨[u],[]⟩=pure [(x,u)]) (hloc:scope.names.lookup x=some .local) (hnc:∀ y∈scope.names,y.2≠.cell) (hk:scope.kind=.function) (hco:scope.isCoroutine=false) (hgen:scope.isGenerator=false)
  (hkey:KeyRd X.prog X.w X.K body x key) (hlen:ks.length=ys.length) (hks:∀ (i:Nat) (v:V) (k:Int),ys[i]?=some v→ks[i]?=some k→key v H k)
  (q:∀ (ps:List (Int × V)) (D:Addr),ps.Perm (ks.zip ys)→ps.Pairwise (fun p q=>p.1≤q.1)→(∀ c,ps.filter (fun p=>p.1 == c)=(ks.zip ys).filter (fun p=>p.1 == c))→s.heap.get? D=none→Q (.ref D) (upd H D (.lst (ps.map (·.2))))) :
  wpAny (model X.prog X.w) X.A (call (.builtin "sorted") [.ref a] [(Str.ofString "key",.ref f)]) (EP X pins σ Q) X.xe s:=by
 obtain ⟨its,rv,pl,hz⟩:=I.list hq
 have hlv:=rv.length
 obtain ⟨m,F⟩:=I.fr
 have N:=news_all (g:=X.base) (h:=s.heap) (L:=X.env.locals)
 have inN:∀ b o,b≠X.env.locals→s.heap.get? b=some o→∀ (h:Heap) (own:List (Addr × Obj)),Fr X.base X.env.locals h m→News X.base X.env.locals h (allNews X.base s.heap X.env.locals++own)→h.get? b=some o:=fun b o hb e h own F' N'=>by
  cases qb:X.base.get? b with
  | some o' =>
   have:=I.bk b o' qb
   rw [e] at this;cases this
   exact F'.keep b _ qb
  | none=>exact (N' (b,o) (List.mem_append_left _ (mem_allNews hb qb e))).1
 have nL:∀ b o,H b=some o→b≠X.env.locals:=fun b o e z=>by rw [z,I.free] at e;cases e
 refine ksk_sortedSt (b:=false) (kz:=ks) F N pl.isList (by omega) (by omega) (ksk_s1 _ _) (fun y=>ksk_l1 _ _) (fun y=>ksk_t1 _ _) (fun i v k hv hki h tk own F' N'=>?_) fun D h' tk out cn F' N' l1 ko=>?_
 ·-- the key of one item
  obtain ⟨yv,hyv,ry⟩:=paired_at rv hv
  have hok':HOk X.prog X.w H h:=fun b o e=>(I.hok b o e).stay (fun c u hc' e'=>inN c u (by rcases hc' with rfl | hc';exact nL c o e;exact nL c _ hc') e' h own F' N') (fun _ z=>z) fun _ _ z=>z
  have hK':X.K.In h:=I.ok.mod.kin.keeps F'.keep
  refine wpAny_call (PySem.W.kla_callFunE (s:={ s with heap:=h,toks:=tk }) (by have:=hr.dp;show X.A.depth<_;omega) (inN f _ fL hf h own F' N') rfl hco hgen rfl ?_ ?_)
  ·obtain ⟨c,oc,vs,tq,e1,e2,r⟩:=hcd
   cases e1
   exact ⟨c',oc,vs,tq,rfl,inN c' oc cL e2 h own F' N',r⟩
  rw [hbind]
  refine wpAny_pure (wpAny_newFunctionEnv hnc (fun y hy=>by rw [List.mem_singleton.mp hy];exact hloc) (fun h₁ hns hsb=>⟨((I.ok.mod.nolimit).keeps F'.keep).fresh _ hsb,?_⟩) hk)
  have hk₁:∀ b o,h.get? b=some o→h₁.get? b=some o:=fun b o e=>hsb.extBut b o (Nat.ne_of_lt (Heap.lt_size e)) (Heap.get?_push_of_some _ e)
  refine PySem.W.kla_codeExpr ?_
  refine hkey _ _ { s with heap:=h₁,toks:=_ } H _ _ yv v k _ hk hloc hns (by simp) ry (hok'.kept hk₁) (hK'.keeps hk₁) (hks i yv k hyv hki) fun t tk'=>?_
  exact KskEnd.intro (F'.keeps hk₁) (fun p hp=>⟨hk₁ _ _ (N' p hp).1,(N' p hp).2⟩) fun p hp=>hp
 ·obtain ⟨ps,h1,h2,h3,h4⟩:=ko
  have hD:=N' (D,seqObj "list" out cn) List.mem_cons_self
  have keep:∀ b o,b≠X.env.locals→s.heap.get? b=some o→h'.get? b=some o:=fun b o hb e=>by
   cases qb:X.base.get? b with
   | some o' =>
    have:=I.bk b o' qb
    rw [e] at this;cases this
    exact F'.keep b _ qb
   | none=>exact (N' (b,o) (List.mem_cons_of_mem _ (mem_allNews hb qb e))).1
  have hDn:s.heap.get? D=none:=by
   cases e:s.heap.get? D with
   | none=>rfl
   | some o=>exact absurd (l1 (D,o) (mem_allNews hD.2.1 hD.2.2 e)) (Nat.lt_irrefl _)
  have hm:(ps.map fun p=>(p.1,vOf p.2)).Perm (ks.zip ys):=by
   have:=h1.map fun p=>(p.1,vOf p.2)
   rw [zip_vOf ks rv] at this
   exact this
  have hsnd:(ps.map fun p=>(p.1,vOf p.2)).map (·.2)=(ps.map Prod.snd).map vOf:=by rw [List.map_map,List.map_map];rfl
  have hvals:Vals ((ps.map fun p=>(p.1,vOf p.2)).map (·.2)) out.toList:=by
   rw [hsnd,h2]
   refine vals_vOf fun u hu=>?_
   obtain ⟨p,hp,rfl⟩:=List.mem_map.mp hu
   have hp':=h1.mem_iff.mp hp
   obtain ⟨k0,u0⟩:=p
   exact vals_ex rv _ (List.of_mem_zip hp').2
  refine ⟨.ref D,_,laidF (t':=tk) (o:=.lst ((ps.map fun p=>(p.1,vOf p.2)).map (·.2))) I keep (fun m' hm'=>by rw [ns_inj hm' F.ns];exact F'.ns) hDn ⟨?_,out.toList,cn,hvals,by rw [Array.toArray_toList];exact hD.1⟩,rfl,q _ D hm ?_ (fun c=>?_) hDn⟩
  ·rw [List.length_map,List.length_map,h1.length_eq,List.length_zip];omega
  ·rw [List.pairwise_map]
   exact h3.imp fun {p q} h=>h
  ·rw [List.filter_map]
   have:=congrArg (List.map fun p=>(p.1,vOf p.2)) (h4 c)
   rw [show (fun p:Int × Value=>p.1 == c)=(fun p:Int × V=>p.1 == c) ∘ fun p=>(p.1,vOf p.2) from rfl,← List.filter_map,← List.filter_map,zip_vOf ks rv] at this
   rw [List.filter_map] at this
   exact this
end
section
variable {X:Cx}
def tSK (K:PySem.W.Frag) (mg:Str→Option Value) (P bm:Addr) (qual:Str) (lpos:Pos) (key:V→Hp→Int→Prop) (te:TE):TE:=fun σ H Q=>te σ H fun y H1=>∃ (a:Addr) (ys:List V) (ks:List Int),y=.ref a∧SqL K H1 a ys∧BmOk H1 mg bm∧LamTab H1 P qual lpos∧ks.length=ys.length ∧
 (∀ H2:Hp,(∀ b,b≠P→H1 b≠none→H2 b=H1 b)→∀ (i:Nat) (v:V) (k:Int),ys[i]?=some v→ks[i]?=some k→key v H2 k) ∧
 ∀ (ps:List (Int × V)) (D:Addr) (H2:Hp),ps.Perm (ks.zip ys)→ps.Pairwise (fun p q=>p.1≤q.1)→(∀ c,ps.filter (fun p=>p.1 == c)=(ks.zip ys).filter (fun p=>p.1 == c))→H1 D=none→LamTab H2 P qual lpos →
  (∀ b,b≠P→H1 b≠none→H2 b=H1 b)→H2 D=some (.lst (ps.map (·.2)))→Q (.ref D) H2
theorem pe_sortedKey {e:Expr}{te:TE}{p pos kp lpos:Pos}{params:Arguments}{body:Expr}{scope:Scope}{x qual:Str}{c P bm:Addr}{key:V→Hp→Int→Prop} (hr:Room 1 X.A) (hc:X.calm=true) (hg:Gl X "sorted") (hm:X.mg "sorted"=none) (he:PE X e te)
  (hcode:X.env.code=.ref c) (hC:PySem.W.codeHdIn X.K c P=true) (hqual:X.env.qual++"<lambda>"=qual) (hkey:KeyRd X.prog X.w X.K body x key)
  (hloc:scope.names.lookup x=some .local) (hnc:∀ y∈scope.names,y.2≠.cell) (hk:scope.kind=.function) (hco:scope.isCoroutine=false) (hgen:scope.isGenerator=false)
  (hbind:∀ pm cdv ctv u,bindArgs (kla_fn "<lambda>" qual params body scope [] pm cdv ctv) ⟨[u],[]⟩=pure [(x,u)]:=by intros;rfl)
  (hdef:defaultsOf params X.env=([],[]):=by rfl) (hcl:closureFor scope X.env=pure []:=by rfl)
  (hs:backTo pos (starEach [e] X.env)=(false,eval e X.env)::backTo pos (starEach [] X.env):=by rfl) :
  PE X (.Call (.Name "sorted" p) [e] [⟨some "key",.Lambda params body scope lpos,kp⟩] pos) (tSK X.K X.mg P bm qual lpos key te):=by
 intro pins s σ H Q I h
 refine wpAny_Call_Name_kw (ld_blt I hg hm (by decide +kernel:bootBuiltins "sorted"=some (.builtin "sorted")) ?_)
 refine callWith_kw (rest:=[]) ?_ hs (by rw [hs];rfl)
 rw [hs]
 refine Calls.spliced_cons (thn (he pins s σ H _ I h) fun u s1 ⟨y,H1,I1,ry,a,ys,ks,ey,hq,hbm,htab,hlen,hks,q⟩=>Calls.spliced_nil ?_)
 subst ey
 obtain rfl:u=Value.ref a:=ry
 refine kws_cons (PySem.W.kla_eval hdef ?_)
 obtain ⟨ps,hP,htab⟩:=htab
 have hP0:s1.heap.get? P=some (tabObj ps):=I1.hok P _ hP
 obtain ⟨ob,hbmh,hb1,hb2,hb3⟩:=hbm.h
 have hbmo:=I1.hok bm _ hbmh
 obtain ⟨hob,_,_⟩:=hbmo
 have hgs:s1.heap.Ns mainGlobals X.mg:=I1.mod.glob.keeps I1.bk
 have hgP:mainGlobals≠P:=fun z=>by
  obtain ⟨o,es,ep,eo,hd,_⟩:=hgs
  rw [z,hP0] at eo;cases eo;cases hd
 have hbP:bm≠P:=fun z=>by
  rw [z,hP0] at hob;cases hob;cases hb3
 have hB:s1.heap.BuiltinsAt X.mg P:=⟨bm,ob,hbm.m,hbm.n1,hbm.n2,hbP,hob,hb1,hb2,hb3⟩
 have hCd:CodeHd s1.heap c P:=PySem.W.codeHd_of_K I1.kIn hC
 have hPL:P≠X.env.locals:=fun z=>by rw [z,I1.free] at hP;cases hP
 have go:∀ (c' f:Addr) (ctv:Value) (H2:Hp) (h2:Heap) (tk:Nat),Inv X pins σ H2 { s1 with heap:=h2,toks:=tk }→h2.get? f=some (kla_obj "<lambda>" qual params body scope [] ((X.mg "__name__").getD .none) c' ctv)→X.base.get? f=none→f≠X.env.locals→h2.CodeRec (.ref c') qual→X.base.get? c'=none→c'≠X.env.locals →
   (∀ b,b≠P→H1 b≠none→H2 b=H1 b)→LamTab H2 P qual lpos→(∀ D,h2.get? D=none→s1.heap.get? D=none∧D≠P)→(∀ D,h2.get? D=none→H2 D=none) →
   wpAny (model X.prog X.w) X.A (call (.builtin "sorted") [.ref a] [(Str.ofString "key",.ref f)]) (EP X pins σ Q) X.xe { s1 with heap:=h2,toks:=tk }:=by
  intro c' f ctv H2 h2 tk I2 hf fb fL hcd cb cL same lt2 nD nD2
  have hq2:SqL X.K H2 a ys:=by
   rcases hq with hq | hq
   ·refine .inl ?_
    have ha:a≠P:=by
     rintro rfl
     rcases hq with hq | ⟨o,hq⟩<;>rw [hP] at hq<;>cases hq
    rcases hq with hq | ⟨o,hq⟩
    ·exact .inl (by rw [same a ha (by rw [hq];simp)];exact hq)
    ·exact .inr ⟨o,by rw [same a ha (by rw [hq];simp)];exact hq⟩
   ·exact .inr hq
  refine sk_run (s:={ s1 with heap:=h2,toks:=tk }) I2 hr hc hq2 hf fb fL hcd cb cL (fun u=>hbind _ _ _ u) hloc hnc hk hco hgen hkey hlen (hks H2 same) fun ps' D h1 h3 h4 hD=>?_
  obtain ⟨d1,d2⟩:=nD D hD
  have hD1:=fresh_of I1 d1
  have hD2:=nD2 D hD
  refine q ps' D _ h1 h3 h4 hD1 ?_ (fun b hb hn=>?_) upd_same
  ·obtain ⟨ps2,e1,e2⟩:=lt2
   refine ⟨ps2,by rw [upd_ne (Ne.symm d2)];exact e1,?_⟩
   rcases e2 with e2 | ⟨c2,e2,e3⟩
   ·exact .inl e2
   ·exact .inr ⟨c2,e2,by rw [upd_ne (ne_of_none e3 hD2)];exact e3⟩
  ·rw [upd_ne (fun z=>hn (by rw [z];exact hD1))]
   exact same b hb hn
 rcases htab with rfl | ⟨c',rfl,hc'⟩
 ·-- the lambda's code is made here
  rw [hqual]
  refine PySem.W.kla_makeFunction (mg:=X.mg) hcl I1.ok.glob hgs hcode hCd hP0 trivial rfl hgP hB fun c' ctv h' tk hx hge hlt hrec htb=>kws_nil ?_
  obtain ⟨c2,oc,vs,tq,ec,hoc,rest⟩:=id hrec
  cases ec
  have c'n:s1.heap.get? c'=none:=Heap.get?_none_of_le hge
  have szL:X.env.locals<s1.heap.objs.size:=I1.lt
  have cne:c'≠P:=Nat.ne_of_gt (Nat.lt_of_lt_of_le (Heap.lt_size hP0) hge)
  let H2:Hp:=upd (upd H1 P (.tbl (#[]++#[rawInt lpos.line,rawInt lpos.col,.ref c']))) c' (.ext fun h=>h.CodeRec (.ref c') qual)
  have same:∀ b u,b≠P→s1.heap.get? b=some u→H2 b=H1 b:=fun b u hb e=>by
   show upd (upd H1 P _) c' _ b=_
   rw [upd_ne (fun z=>by rw [z,c'n] at e;cases e),upd_ne hb]
  have hP2:H2 P=some (.tbl (#[]++#[rawInt lpos.line,rawInt lpos.col,.ref c'])):=by
   show upd (upd H1 P _) c' _ P=_
   rw [upd_ne (Ne.symm cne),upd_same]
  have ext:∀ b o,b≠P→H1 b=some o→H2 b=some o:=fun b o hb e=>by
   obtain ⟨ob,z⟩:=okObj (I1.hok b o e)
   rw [same b ob hb z];exact e
  have kp:∀ b u,b≠P→s1.heap.get? b=some u→(h'.push (kla_obj "<lambda>" qual params body scope [] ((X.mg "__name__").getD .none) c' ctv)).get? b=some u:=fun b u hb e=>Heap.get?_push_of_some _ (hx b u hb e)
  have hrec2:(h'.push (kla_obj "<lambda>" qual params body scope [] ((X.mg "__name__").getD .none) c' ctv)).CodeRec (.ref c') qual:=⟨c',oc,vs,tq,rfl,Heap.get?_push_of_some _ hoc,rest⟩
  have szh:s1.heap.objs.size≤h'.objs.size:=Nat.le_trans hge (Nat.le_of_lt hlt)
  have hok2:HOk X.prog X.w H2 (h'.push (kla_obj "<lambda>" qual params body scope [] ((X.mg "__name__").getD .none) c' ctv)):=fun b o eb=>by
   by_cases hb:b=c'
   ·subst hb
    have:H2 b=some (.ext fun h=>h.CodeRec (.ref b) qual):=upd_same
    rw [this] at eb;cases eb
    refine ⟨hrec2,⟨oc,Heap.get?_push_of_some _ hoc⟩,fun h1 h2 ⟨c3,o3,v3,t3,e3,e4,r3⟩ k=>?_⟩
    cases e3
    exact ⟨b,o3,v3,t3,rfl,k o3 e4,r3⟩
   ·by_cases hbP':b=P
    ·subst hbP'
     rw [hP2] at eb;cases eb
     exact Heap.get?_push_of_some _ htb
    ·have e1:H1 b=some o:=by
      have:H2 b=H1 b:=by
       show upd (upd H1 P _) c' _ b=_
       rw [upd_ne hb,upd_ne hbP']
      rw [← this];exact eb
     refine (I1.hok b o e1).stay (fun d v hd z=>kp d v ?_ z) (fun d z=>ext d _ ?_ z) fun d xs z=>ext d _ ?_ z
     ·rcases hd with rfl | hd
      ·exact hbP'
      ·rintro rfl;rw [hP] at hd;cases hd
     ·rintro rfl;rw [hP] at z;cases z
     ·rintro rfl;rw [hP] at z;cases z
  have hls:X.env.locals<h'.objs.size:=Nat.lt_of_lt_of_le szL szh
  have hbz:X.base.objs.size≤h'.objs.size:=Nat.le_trans I1.ok.bsz (Nat.le_trans I1.sz szh)
  refine go c' h'.objs.size ctv H2 _ tk (grownT (s:=s1) I1 hP kp ⟨_,hP2⟩ ⟨_,Heap.get?_push_of_some _ htb⟩ same hok2) (Heap.get?_push_size _ rfl) (Heap.get?_none_of_le hbz) (Nat.ne_of_gt hls) hrec2 (Heap.get?_none_of_le (Nat.le_trans I1.ok.bsz (Nat.le_trans I1.sz hge))) (Nat.ne_of_gt (Nat.lt_of_lt_of_le szL hge))
   (fun b hb hn=>?_) ⟨_,hP2,.inr ⟨c',rfl,upd_same⟩⟩ (fun D hD=>?_) fun D hD=>?_
  ·cases e:H1 b with
   | none=>exact absurd e hn
   | some o=>rw [ext b o hb e]
  ·refine ⟨?_,?_⟩
   ·cases e:s1.heap.get? D with
    | none=>rfl
    | some o =>
     have hDP:D≠P:=by rintro rfl;rw [Heap.get?_push_of_some _ htb] at hD;cases hD
     rw [kp D o hDP e] at hD;cases hD
   ·rintro rfl;rw [Heap.get?_push_of_some _ htb] at hD;cases hD
  ·cases e:H2 D with
   | none=>rfl
   | some o =>
    obtain ⟨ob,z⟩:=okObj (hok2 D o e)
    rw [hD] at z;cases z
 ·-- it stands in the table
  rw [hqual]
  have hf:codeAmong lpos (#[rawInt lpos.line,rawInt lpos.col,.ref c']:Array Value).toList=some (.ref c'):=by
   show (if ((lpos.line:Int) == lpos.line && (lpos.col:Int) == lpos.col)=true then some (Value.ref c') else _)=_
   rw [if_pos (by simp)]
  have hcr:=I1.hok c' _ hc'
  obtain ⟨hrec,_,_⟩:=hcr
  refine PySem.W.kla_makeFunctionHit (mg:=X.mg) hcl I1.ok.glob hgs hcode hCd hP0 (by simp [TriplesOk,rawInt]) hf hB fun ctv h' tk kp szh=>kws_nil ?_
  obtain ⟨c2,oc,vs,tq,ec,hoc,rest⟩:=id hrec
  cases ec
  have szL:X.env.locals<s1.heap.objs.size:=I1.lt
  have kp':∀ b u,s1.heap.get? b=some u→(h'.push (kla_obj "<lambda>" qual params body scope [] ((X.mg "__name__").getD .none) c' ctv)).get? b=some u:=fun b u e=>Heap.get?_push_of_some _ (kp b u e)
  have hcL:c'≠X.env.locals:=fun z=>by rw [z,I1.free] at hc';cases hc'
  have hcb:X.base.get? c'=none:=by
   cases e:X.base.get? c' with
   | none=>rfl
   | some o=>rw [(I1.bs c' o e).2] at hc';cases hc'
  refine go c' h'.objs.size ctv H1 _ tk (I1.kept kp') (Heap.get?_push_size _ rfl) (Heap.get?_none_of_le (Nat.le_trans I1.ok.bsz (Nat.le_trans I1.sz szh))) (Nat.ne_of_gt (Nat.lt_of_lt_of_le szL szh)) ⟨c',oc,vs,tq,rfl,kp' _ _ hoc,rest⟩ hcb hcL
   (fun b _ _=>rfl) ⟨_,hP,.inr ⟨c',rfl,hc'⟩⟩ (fun D hD=>?_) fun D hD=>?_
  ·refine ⟨?_,?_⟩
   ·cases e:s1.heap.get? D with
    | none=>rfl
    | some o=>rw [kp' D o e] at hD;cases hD
   ·rintro rfl;rw [kp' _ _ hP0] at hD;cases hD
  ·cases e:H1 D with
   | none=>rfl
   | some o =>
    obtain ⟨ob,z⟩:=okObj (I1.hok D o e)
    rw [kp' D ob z] at hD;cases hD
end
end Bk
namespace Bk
open PySem PySem.Spec PyProof.Rows L2
structure MethOk (K:PySem.W.Frag) (C:Addr) (m qual:Str) (st:Stmt) (ps:List Str) (f:Addr) (fd:FuncData):Prop where
 fn:Fun K m qual st f fd
 me:Meth K C m f
 bi:Binds K fd ps []
structure FunOk (K:PySem.W.Frag) (mg:Str→Option Value) (m:Str) (st:Stmt) (ps:List Str) (f:Addr) (fd:FuncData):Prop where
 fn:Fun K m m st f fd
 mg:mg m=some (.ref f)
 kp:PySem.W.keepIn K (.ref f)=true
 bi:Binds K fd ps []
section
variable {K:PySem.W.Frag}{C f:Addr}{m qual:Str}{st:Stmt}{ps:List Str}{oc:Value}{od an:Option Addr}{osl:Array (Option Value)}{kV doc pm cdv ct:Value}
theorem mk_meth (a:PySem.W.findIn K (.ref C) m=some (some (.ref f))) (i:PySem.W.isFn K (.ref f)=true)
  (l:K.lookup f=some ⟨oc,od,.func (PySem.W.fnOf m qual (defArgs st) (defBody st) (defScope st) .none kV doc pm an cdv ct),osl⟩)
  (c:PySem.W.codeIn K cdv qual=true) (k:PySem.W.keepIn K (.ref f)=true)
  (h:∀ (kV doc pm:Value) (an:Option Addr) (cdv ct:Value) (us:List Value),us.length=ps.length→bindArgs (PySem.W.fnOf m qual (defArgs st) (defBody st) (defScope st) .none kV doc pm an cdv ct) ⟨us,[]⟩=pure (ps.zip us)) :
  MethOk K C m qual st ps f (PySem.W.fnOf m qual (defArgs st) (defBody st) (defScope st) .none kV doc pm an cdv ct) :=
 ⟨fun_mk (st:=st) l c k,⟨a,i,k⟩,(fun_mk (st:=st) l c k).binds h⟩
theorem mk_fun {h0:Heap}{mg:Str→Option Value} (X:K.In h0) (G:h0.Ns mainGlobals mg) (a:PySem.W.nsIn K mainGlobals m=some (some (.ref f)))
  (l:K.lookup f=some ⟨oc,od,.func (PySem.W.fnOf m m (defArgs st) (defBody st) (defScope st) .none kV doc pm an cdv ct),osl⟩)
  (c:PySem.W.codeIn K cdv m=true) (k:PySem.W.keepIn K (.ref f)=true)
  (h:∀ (kV doc pm:Value) (an:Option Addr) (cdv ct:Value) (us:List Value),us.length=ps.length→bindArgs (PySem.W.fnOf m m (defArgs st) (defBody st) (defScope st) .none kV doc pm an cdv ct) ⟨us,[]⟩=pure (ps.zip us)) :
  FunOk K mg m st ps f (PySem.W.fnOf m m (defArgs st) (defBody st) (defScope st) .none kV doc pm an cdv ct) :=
 ⟨fun_mk (st:=st) l c k,PySem.W.mg_of X G a,k,(fun_mk (st:=st) l c k).binds h⟩
theorem mk_cls (h1:PySem.W.plainGet K C Str.empty=true) (h2:PySem.W.hasDictIn K C=true) (h3:PySem.W.plainOver K C=true) (h4:PySem.W.findIn K (.ref C) "__setattr__"=some (some (.builtin "object.__setattr__"))):Cls K C:=⟨h1,h2,h3,h4⟩
theorem mk_fd {ks:List Str}{i:Nat} (c:Cls K C) (h:PySem.W.findIn K (.ref C) m=some none) (e:(ks.findIdx? (fun k=>k == m) == some i)=true) (l:ks.length<1000):Fd K C ks m i:=⟨c,h,beq_iff_eq.mp e,l⟩
end
theorem pe_gint {X:Cx}{x:Str}{n:Int}{pos:Pos} (hm:∃ t,X.mg x=some (.int n t)) (hg:Gl X x:=by rfl) (hd:(x == ("__debug__":Str))=false:=by decide):PE X (.Name x pos) (tC (.int n)):=by
 obtain ⟨t,h⟩:=hm
 exact pe_glob hg h ⟨t,rfl⟩ hd
section
variable {P:Program}{w:World}{K:PySem.W.Frag}{mg:Str→Option Value}{base:Heap}
theorem okC {x qual:Str}{st:Stmt}{f:Addr}{fd:FuncData}{N ps:List Str}{k:Nat}{sp:Sp} (F:Fun K x qual st f fd) (S:FnScope N ps (defScope st)) (len:∀ vs H Q E,sp vs H Q E→vs.length=ps.length)
  (hbody:∀ (cdv:Value),fd.code=cdv→∀ (A:Around) (outer:List Env) (s:Shared) (H:Hp) (vs:List V) (Q:VK) (E:XK),Room k (A.deeper (envOfC qual (defScope st) s.heap.objs.size f cdv))→sp vs H Q E →
   ∃ t,PSs (cxOf CX0 P w K mg base N qual (defScope st) f cdv A outer s H E).nox (defBody st) t∧t { nx:=fun _ H'=>Q .non H',rt:=Q } (start N vs) H):FnOk P w K mg base CX0 (k+1) f fd ps sp:=by
 obtain ⟨oc,od,kV,doc,pm,an,cdv,ct,osl,rfl,lk,hcd⟩:=F.ex
 refine fn_of lk hcd S len fun A outer s H vs Q E hr hsp=>?_
 obtain ⟨t,h,q⟩:=hbody cdv rfl A outer s H vs Q E hr hsp
 exact ⟨t,h.nox,q⟩
end
set_option genInjectivity false in
set_option genSizeOf false in
structure Adr where
 c_Picks:Addr
 c_Piece:Addr
 c_Pieces:Addr
 c_Rows:Addr
 c_Node:Addr
 c_Ways:Addr
 c_Book:Addr
 f_answer_to_change:Addr
 d_answer_to_change:FuncData
 f_answer_to_question:Addr
 d_answer_to_question:FuncData
 f_answer_to_ranking:Addr
 d_answer_to_ranking:FuncData
 f_answer_to_view:Addr
 d_answer_to_view:FuncData
 f_answer_to:Addr
 d_answer_to:FuncData
 f_first_given:Addr
 d_first_given:FuncData
 f_end_given:Addr
 d_end_given:FuncData
 f_within:Addr
 d_within:FuncData
 f_Picks___init__:Addr
 d_Picks___init__:FuncData
 f_Picks_start:Addr
 d_Picks_start:FuncData
 f_Picks_note_made:Addr
 d_Picks_note_made:FuncData
 f_Picks_count_picked:Addr
 d_Picks_count_picked:FuncData
 f_Picks_of_nodes:Addr
 d_Picks_of_nodes:FuncData
 f_Piece___init__:Addr
 d_Piece___init__:FuncData
 f_end_of:Addr
 d_end_of:FuncData
 f_Pieces___init__:Addr
 d_Pieces___init__:FuncData
 f_Pieces_how_many:Addr
 d_Pieces_how_many:FuncData
 f_Pieces_has:Addr
 d_Pieces_has:FuncData
 f_Pieces_living:Addr
 d_Pieces_living:FuncData
 f_Pieces_eldest:Addr
 d_Pieces_eldest:FuncData
 f_Pieces_rank:Addr
 d_Pieces_rank:FuncData
 f_Pieces_holder:Addr
 d_Pieces_holder:FuncData
 f_Pieces_is_free:Addr
 d_Pieces_is_free:FuncData
 f_Pieces_put:Addr
 d_Pieces_put:FuncData
 f_Pieces_take:Addr
 d_Pieces_take:FuncData
 f_size_class:Addr
 d_size_class:FuncData
 f_age_class:Addr
 d_age_class:FuncData
 f_Rows___init__:Addr
 d_Rows___init__:FuncData
 f_Rows_note_made:Addr
 d_Rows_note_made:FuncData
 f_Rows_note_moved:Addr
 d_Rows_note_moved:FuncData
 f_Rows_note_went:Addr
 d_Rows_note_went:FuncData
 f_Rows_by_size:Addr
 d_Rows_by_size:FuncData
 f_Rows_by_age:Addr
 d_Rows_by_age:FuncData
 f_least_reaching:Addr
 d_least_reaching:FuncData
 f_Node___init__:Addr
 d_Node___init__:FuncData
 f_sum_of:Addr
 d_sum_of:FuncData
 f_Ways___init__:Addr
 d_Ways___init__:FuncData
 f_Ways_has:Addr
 d_Ways_has:FuncData
 f_Ways_depth_here:Addr
 d_Ways_depth_here:FuncData
 f_Ways_enter:Addr
 d_Ways_enter:FuncData
 f_Ways_unwind:Addr
 d_Ways_unwind:FuncData
 f_Ways_leave:Addr
 d_Ways_leave:FuncData
 f_Ways_find:Addr
 d_Ways_find:FuncData
 f_Ways_nodes_up:Addr
 d_Ways_nodes_up:FuncData
 f_Ways_whos:Addr
 d_Ways_whos:FuncData
 f_Ways_count_made:Addr
 d_Ways_count_made:FuncData
 f_Ways_count_live:Addr
 d_Ways_count_live:FuncData
 f_Ways_sums:Addr
 d_Ways_sums:FuncData
 f_Ways_most:Addr
 d_Ways_most:FuncData
 f_Ways_line:Addr
 d_Ways_line:FuncData
 f_Ways_text:Addr
 d_Ways_text:FuncData
 f_Ways_live_sums:Addr
 d_Ways_live_sums:FuncData
 f_Ways_changes:Addr
 d_Ways_changes:FuncData
 f_joined:Addr
 d_joined:FuncData
 f_counted:Addr
 d_counted:FuncData
 f_Book___init__:Addr
 d_Book___init__:FuncData
 f_Book_begin:Addr
 d_Book_begin:FuncData
 f_Book_enter:Addr
 d_Book_enter:FuncData
 f_Book_leave:Addr
 d_Book_leave:FuncData
 f_Book_unwind:Addr
 d_Book_unwind:FuncData
 f_Book_tick:Addr
 d_Book_tick:FuncData
 f_Book_made:Addr
 d_Book_made:FuncData
 f_Book_went:Addr
 d_Book_went:FuncData
 f_Book_moved:Addr
 d_Book_moved:FuncData
 f_Book_count_live:Addr
 d_Book_count_live:FuncData
 f_Book_now:Addr
 d_Book_now:FuncData
 f_Book_node:Addr
 d_Book_node:FuncData
 f_Book_find:Addr
 d_Book_find:FuncData
 f_Book_path:Addr
 d_Book_path:FuncData
 f_Book_sizes:Addr
 d_Book_sizes:FuncData
 f_Book_ages:Addr
 d_Book_ages:FuncData
 f_Book_oldest:Addr
 d_Book_oldest:FuncData
 f_Book_top:Addr
 d_Book_top:FuncData
 f_Book_mark:Addr
 d_Book_mark:FuncData
 f_Book_since:Addr
 d_Book_since:FuncData
 f_Book_holds:Addr
 d_Book_holds:FuncData
 f_Book_weighed:Addr
 d_Book_weighed:FuncData
 f_Book_share:Addr
 d_Book_share:FuncData
 f_Book_pick:Addr
 d_Book_pick:FuncData
 f_Book_picked:Addr
 d_Book_picked:FuncData
 f_Book_lines:Addr
 d_Book_lines:FuncData
 f_answers:Addr
 d_answers:FuncData
 a_NUMBERS_BEHIND:Addr
 k_Pieces_eldest:Addr
 t_Pieces_eldest:Addr
 k_Ways_most:Addr
 t_Ways_most:Addr
 a_bm:Addr
 o_bm:Obj
abbrev K_Picks:List Str:=["rate","unpicked","total","by_node"]
abbrev K_Piece:List Str:=["number","place","size","owner","born"]
abbrev K_Pieces:List Str:=["by_place","places"]
abbrev K_Rows:List Str:=["size_made","size_live","age_went","age_bytes"]
abbrev K_Node:List Str:=["above","who","depth","made_pieces","made_bytes","live_pieces","live_bytes","peak_bytes","all_live_pieces","all_live_bytes","all_made_bytes"]
abbrev K_Ways:List Str:=["nodes","steps","here"]
abbrev K_Book:List Str:=["time","ways","pieces","rows","picks","marks","live_bytes","peak_bytes","peak_time","made_pieces","made_bytes","went_pieces"]
abbrev s_answer_to_change:Stmt:=top 26
abbrev s_answer_to_question:Stmt:=top 27
abbrev s_answer_to_ranking:Stmt:=top 28
abbrev s_answer_to_view:Stmt:=top 29
abbrev s_answer_to:Stmt:=top 30
abbrev s_first_given:Stmt:=top 31
abbrev s_end_given:Stmt:=top 32
abbrev s_within:Stmt:=top 53
abbrev s_Picks___init__:Stmt:=inClass (top 55) 0
abbrev s_Picks_start:Stmt:=inClass (top 55) 1
abbrev s_Picks_note_made:Stmt:=inClass (top 55) 2
abbrev s_Picks_count_picked:Stmt:=inClass (top 55) 3
abbrev s_Picks_of_nodes:Stmt:=inClass (top 55) 4
abbrev s_Piece___init__:Stmt:=inClass (top 58) 0
abbrev s_end_of:Stmt:=top 59
abbrev s_Pieces___init__:Stmt:=inClass (top 60) 0
abbrev s_Pieces_how_many:Stmt:=inClass (top 60) 1
abbrev s_Pieces_has:Stmt:=inClass (top 60) 2
abbrev s_Pieces_living:Stmt:=inClass (top 60) 3
abbrev s_Pieces_eldest:Stmt:=inClass (top 60) 4
abbrev s_Pieces_rank:Stmt:=inClass (top 60) 5
abbrev s_Pieces_holder:Stmt:=inClass (top 60) 6
abbrev s_Pieces_is_free:Stmt:=inClass (top 60) 7
abbrev s_Pieces_put:Stmt:=inClass (top 60) 8
abbrev s_Pieces_take:Stmt:=inClass (top 60) 9
abbrev s_size_class:Stmt:=top 64
abbrev s_age_class:Stmt:=top 65
abbrev s_Rows___init__:Stmt:=inClass (top 66) 0
abbrev s_Rows_note_made:Stmt:=inClass (top 66) 1
abbrev s_Rows_note_moved:Stmt:=inClass (top 66) 2
abbrev s_Rows_note_went:Stmt:=inClass (top 66) 3
abbrev s_Rows_by_size:Stmt:=inClass (top 66) 4
abbrev s_Rows_by_age:Stmt:=inClass (top 66) 5
abbrev s_least_reaching:Stmt:=top 68
abbrev s_Node___init__:Stmt:=inClass (top 74) 0
abbrev s_sum_of:Stmt:=top 75
abbrev s_Ways___init__:Stmt:=inClass (top 76) 0
abbrev s_Ways_has:Stmt:=inClass (top 76) 1
abbrev s_Ways_depth_here:Stmt:=inClass (top 76) 2
abbrev s_Ways_enter:Stmt:=inClass (top 76) 3
abbrev s_Ways_unwind:Stmt:=inClass (top 76) 4
abbrev s_Ways_leave:Stmt:=inClass (top 76) 5
abbrev s_Ways_find:Stmt:=inClass (top 76) 6
abbrev s_Ways_nodes_up:Stmt:=inClass (top 76) 7
abbrev s_Ways_whos:Stmt:=inClass (top 76) 8
abbrev s_Ways_count_made:Stmt:=inClass (top 76) 9
abbrev s_Ways_count_live:Stmt:=inClass (top 76) 10
abbrev s_Ways_sums:Stmt:=inClass (top 76) 11
abbrev s_Ways_most:Stmt:=inClass (top 76) 12
abbrev s_Ways_line:Stmt:=inClass (top 76) 13
abbrev s_Ways_text:Stmt:=inClass (top 76) 14
abbrev s_Ways_live_sums:Stmt:=inClass (top 76) 15
abbrev s_Ways_changes:Stmt:=inClass (top 76) 16
abbrev s_joined:Stmt:=top 81
abbrev s_counted:Stmt:=top 82
abbrev s_Book___init__:Stmt:=inClass (top 83) 0
abbrev s_Book_begin:Stmt:=inClass (top 83) 1
abbrev s_Book_enter:Stmt:=inClass (top 83) 2
abbrev s_Book_leave:Stmt:=inClass (top 83) 3
abbrev s_Book_unwind:Stmt:=inClass (top 83) 4
abbrev s_Book_tick:Stmt:=inClass (top 83) 5
abbrev s_Book_made:Stmt:=inClass (top 83) 6
abbrev s_Book_went:Stmt:=inClass (top 83) 7
abbrev s_Book_moved:Stmt:=inClass (top 83) 8
abbrev s_Book_count_live:Stmt:=inClass (top 83) 9
abbrev s_Book_now:Stmt:=inClass (top 83) 10
abbrev s_Book_node:Stmt:=inClass (top 83) 11
abbrev s_Book_find:Stmt:=inClass (top 83) 12
abbrev s_Book_path:Stmt:=inClass (top 83) 13
abbrev s_Book_sizes:Stmt:=inClass (top 83) 14
abbrev s_Book_ages:Stmt:=inClass (top 83) 15
abbrev s_Book_oldest:Stmt:=inClass (top 83) 16
abbrev s_Book_top:Stmt:=inClass (top 83) 17
abbrev s_Book_mark:Stmt:=inClass (top 83) 18
abbrev s_Book_since:Stmt:=inClass (top 83) 19
abbrev s_Book_holds:Stmt:=inClass (top 83) 20
abbrev s_Book_weighed:Stmt:=inClass (top 83) 21
abbrev s_Book_share:Stmt:=inClass (top 83) 22
abbrev s_Book_pick:Stmt:=inClass (top 83) 23
abbrev s_Book_picked:Stmt:=inClass (top 83) 24
abbrev s_Book_lines:Stmt:=inClass (top 83) 25
abbrev s_answers:Stmt:=top 84
abbrev lp_Pieces_eldest:Pos:=⟨167,41,167,67⟩
abbrev lp_Ways_most:Pos:=⟨362,41,362,62⟩
abbrev lq_Pieces_eldest:Str:="Pieces.eldest"++".<locals>."++"<lambda>"
abbrev lq_Ways_most:Str:="Ways.most"++".<locals>."++"<lambda>"
structure Txt (K:PySem.W.Frag) (mg:Str→Option Value) (A:Adr):Prop where
 b_all:mg "all"=none
 b_enumerate:mg "enumerate"=none
 b_len:mg "len"=none
 b_list:mg "list"=none
 b_max:mg "max"=none
 b_ord:mg "ord"=none
 b_sorted:mg "sorted"=none
 b_str:mg "str"=none
 b_sum:mg "sum"=none
 b_zip:mg "zip"=none
 g_AGES:∃ t,mg "AGES"=some (.int (13) t)
 g_AGE_CLASSES:∃ t,mg "AGE_CLASSES"=some (.int (64) t)
 g_ALL_LIVE:∃ t,mg "ALL_LIVE"=some (.int (3) t)
 g_BEGIN:∃ t,mg "BEGIN"=some (.int (0) t)
 g_BYTES_BY_SIZE:∃ t,mg "BYTES_BY_SIZE"=some (.int (1) t)
 g_ENTER:∃ t,mg "ENTER"=some (.int (1) t)
 g_FIND:∃ t,mg "FIND"=some (.int (10) t)
 g_FULL:∃ t,mg "FULL"=some (.int (-6) t)
 g_HOLDS:∃ t,mg "HOLDS"=some (.int (18) t)
 g_LEAVE:∃ t,mg "LEAVE"=some (.int (2) t)
 g_LINES:∃ t,mg "LINES"=some (.int (22) t)
 g_MADE:∃ t,mg "MADE"=some (.int (5) t)
 g_MARK:∃ t,mg "MARK"=some (.int (16) t)
 g_MOST_ASKED:∃ t,mg "MOST_ASKED"=some (.int (1024) t)
 g_MOST_DEPTH:∃ t,mg "MOST_DEPTH"=some (.int (64) t)
 g_MOST_MARKS:∃ t,mg "MOST_MARKS"=some (.int (64) t)
 g_MOST_NODES:∃ t,mg "MOST_NODES"=some (.int (4096) t)
 g_MOST_PIECES:∃ t,mg "MOST_PIECES"=some (.int (65536) t)
 g_MOST_PLACE:∃ t,mg "MOST_PLACE"=some (.int (1099511627775) t)
 g_MOST_RATE:∃ t,mg "MOST_RATE"=some (.int (4294967295) t)
 g_MOST_SIZE:∃ t,mg "MOST_SIZE"=some (.int (4294967295) t)
 g_MOST_TEXT:∃ t,mg "MOST_TEXT"=some (.int (1048576) t)
 g_MOST_TICK:∃ t,mg "MOST_TICK"=some (.int (4294967295) t)
 g_MOST_WHO:∃ t,mg "MOST_WHO"=some (.int (65535) t)
 g_MOVED:∃ t,mg "MOVED"=some (.int (7) t)
 g_NODE:∃ t,mg "NODE"=some (.int (9) t)
 g_NOT_FREE:∃ t,mg "NOT_FREE"=some (.int (-3) t)
 g_NOT_SO_LONG:∃ t,mg "NOT_SO_LONG"=some (.int (-5) t)
 g_NOT_THERE:∃ t,mg "NOT_THERE"=some (.int (-4) t)
 g_NOW:∃ t,mg "NOW"=some (.int (8) t)
 g_NOWHERE:∃ t,mg "NOWHERE"=some (.int (-1) t)
 g_NUMBERS_BEHIND:mg "NUMBERS_BEHIND"=some (.ref A.a_NUMBERS_BEHIND)
 t_NUMBERS_BEHIND:∃ (o:Obj) (its:Array Value) (n:Nat),K.lookup A.a_NUMBERS_BEHIND=some o∧o.cls=.type "tuple"∧o.data=.seq its n∧its.size≤sizeLine∧Vals [.int 0,.int 1,.int 0,.int 1,.int 1,.int 2,.int 1,.int 3,.int 0,.int 1,.int 0,.int 1,.int 0,.int 0,.int 1,.int 2,.int 0,.int 1,.int 1,.int 2,.int 1,.int 0,.int 1] its.toList
 g_OLDEST:∃ t,mg "OLDEST"=some (.int (14) t)
 g_OUT_OF_RANGE:∃ t,mg "OUT_OF_RANGE"=some (.int (-8) t)
 g_OWN_LIVE:∃ t,mg "OWN_LIVE"=some (.int (0) t)
 g_OWN_MADE:∃ t,mg "OWN_MADE"=some (.int (1) t)
 g_OWN_PEAK:∃ t,mg "OWN_PEAK"=some (.int (2) t)
 g_PATH:∃ t,mg "PATH"=some (.int (11) t)
 g_PICK:∃ t,mg "PICK"=some (.int (20) t)
 g_PICKED:∃ t,mg "PICKED"=some (.int (21) t)
 g_PIECES_BY_AGE:∃ t,mg "PIECES_BY_AGE"=some (.int (2) t)
 g_PIECES_BY_SIZE:∃ t,mg "PIECES_BY_SIZE"=some (.int (0) t)
 g_SHARE:∃ t,mg "SHARE"=some (.int (19) t)
 g_SINCE:∃ t,mg "SINCE"=some (.int (17) t)
 g_SIZES:∃ t,mg "SIZES"=some (.int (12) t)
 g_SIZE_CLASSES:∃ t,mg "SIZE_CLASSES"=some (.int (124) t)
 g_SUM_END:∃ t,mg "SUM_END"=some (.int (9223372036854775808) t)
 g_TICK:∃ t,mg "TICK"=some (.int (4) t)
 g_TOO_GREAT:∃ t,mg "TOO_GREAT"=some (.int (-7) t)
 g_TOP:∃ t,mg "TOP"=some (.int (15) t)
 g_UNWIND:∃ t,mg "UNWIND"=some (.int (3) t)
 g_WENT:∃ t,mg "WENT"=some (.int (6) t)
 g_WHOLE:∃ t,mg "WHOLE"=some (.int (10000) t)
 cl_Picks:Cls K A.c_Picks
 fd_Picks_rate:Fd K A.c_Picks K_Picks "rate" 0
 fd_Picks_unpicked:Fd K A.c_Picks K_Picks "unpicked" 1
 fd_Picks_total:Fd K A.c_Picks K_Picks "total" 2
 fd_Picks_by_node:Fd K A.c_Picks K_Picks "by_node" 3
 mg_Picks:mg "Picks"=some (.ref A.c_Picks)
 mk_Picks:Mk K A.c_Picks A.f_Picks___init__
 cl_Piece:Cls K A.c_Piece
 fd_Piece_number:Fd K A.c_Piece K_Piece "number" 0
 fd_Piece_place:Fd K A.c_Piece K_Piece "place" 1
 fd_Piece_size:Fd K A.c_Piece K_Piece "size" 2
 fd_Piece_owner:Fd K A.c_Piece K_Piece "owner" 3
 fd_Piece_born:Fd K A.c_Piece K_Piece "born" 4
 mg_Piece:mg "Piece"=some (.ref A.c_Piece)
 mk_Piece:Mk K A.c_Piece A.f_Piece___init__
 cl_Pieces:Cls K A.c_Pieces
 fd_Pieces_by_place:Fd K A.c_Pieces K_Pieces "by_place" 0
 fd_Pieces_places:Fd K A.c_Pieces K_Pieces "places" 1
 mg_Pieces:mg "Pieces"=some (.ref A.c_Pieces)
 mk_Pieces:Mk K A.c_Pieces A.f_Pieces___init__
 cl_Rows:Cls K A.c_Rows
 fd_Rows_size_made:Fd K A.c_Rows K_Rows "size_made" 0
 fd_Rows_size_live:Fd K A.c_Rows K_Rows "size_live" 1
 fd_Rows_age_went:Fd K A.c_Rows K_Rows "age_went" 2
 fd_Rows_age_bytes:Fd K A.c_Rows K_Rows "age_bytes" 3
 mg_Rows:mg "Rows"=some (.ref A.c_Rows)
 mk_Rows:Mk K A.c_Rows A.f_Rows___init__
 cl_Node:Cls K A.c_Node
 fd_Node_above:Fd K A.c_Node K_Node "above" 0
 fd_Node_who:Fd K A.c_Node K_Node "who" 1
 fd_Node_depth:Fd K A.c_Node K_Node "depth" 2
 fd_Node_made_pieces:Fd K A.c_Node K_Node "made_pieces" 3
 fd_Node_made_bytes:Fd K A.c_Node K_Node "made_bytes" 4
 fd_Node_live_pieces:Fd K A.c_Node K_Node "live_pieces" 5
 fd_Node_live_bytes:Fd K A.c_Node K_Node "live_bytes" 6
 fd_Node_peak_bytes:Fd K A.c_Node K_Node "peak_bytes" 7
 fd_Node_all_live_pieces:Fd K A.c_Node K_Node "all_live_pieces" 8
 fd_Node_all_live_bytes:Fd K A.c_Node K_Node "all_live_bytes" 9
 fd_Node_all_made_bytes:Fd K A.c_Node K_Node "all_made_bytes" 10
 mg_Node:mg "Node"=some (.ref A.c_Node)
 mk_Node:Mk K A.c_Node A.f_Node___init__
 cl_Ways:Cls K A.c_Ways
 fd_Ways_nodes:Fd K A.c_Ways K_Ways "nodes" 0
 fd_Ways_steps:Fd K A.c_Ways K_Ways "steps" 1
 fd_Ways_here:Fd K A.c_Ways K_Ways "here" 2
 mg_Ways:mg "Ways"=some (.ref A.c_Ways)
 mk_Ways:Mk K A.c_Ways A.f_Ways___init__
 cl_Book:Cls K A.c_Book
 fd_Book_time:Fd K A.c_Book K_Book "time" 0
 fd_Book_ways:Fd K A.c_Book K_Book "ways" 1
 fd_Book_pieces:Fd K A.c_Book K_Book "pieces" 2
 fd_Book_rows:Fd K A.c_Book K_Book "rows" 3
 fd_Book_picks:Fd K A.c_Book K_Book "picks" 4
 fd_Book_marks:Fd K A.c_Book K_Book "marks" 5
 fd_Book_live_bytes:Fd K A.c_Book K_Book "live_bytes" 6
 fd_Book_peak_bytes:Fd K A.c_Book K_Book "peak_bytes" 7
 fd_Book_peak_time:Fd K A.c_Book K_Book "peak_time" 8
 fd_Book_made_pieces:Fd K A.c_Book K_Book "made_pieces" 9
 fd_Book_made_bytes:Fd K A.c_Book K_Book "made_bytes" 10
 fd_Book_went_pieces:Fd K A.c_Book K_Book "went_pieces" 11
 mg_Book:mg "Book"=some (.ref A.c_Book)
 mk_Book:Mk K A.c_Book A.f_Book___init__
 u_answer_to_change:FunOk K mg "answer_to_change" s_answer_to_change ["book","call","given"] A.f_answer_to_change A.d_answer_to_change
 u_answer_to_question:FunOk K mg "answer_to_question" s_answer_to_question ["book","call","given"] A.f_answer_to_question A.d_answer_to_question
 u_answer_to_ranking:FunOk K mg "answer_to_ranking" s_answer_to_ranking ["book","call","given"] A.f_answer_to_ranking A.d_answer_to_ranking
 u_answer_to_view:FunOk K mg "answer_to_view" s_answer_to_view ["book","call","given"] A.f_answer_to_view A.d_answer_to_view
 u_answer_to:FunOk K mg "answer_to" s_answer_to ["book","call","given"] A.f_answer_to A.d_answer_to
 u_first_given:FunOk K mg "first_given" s_first_given ["calls","at"] A.f_first_given A.d_first_given
 u_end_given:FunOk K mg "end_given" s_end_given ["calls","at"] A.f_end_given A.d_end_given
 u_within:FunOk K mg "within" s_within ["number","most"] A.f_within A.d_within
 m_Picks___init__:MethOk K A.c_Picks "__init__" "Picks.__init__" s_Picks___init__ ["self"] A.f_Picks___init__ A.d_Picks___init__
 m_Picks_start:MethOk K A.c_Picks "start" "Picks.start" s_Picks_start ["self","rate"] A.f_Picks_start A.d_Picks_start
 m_Picks_note_made:MethOk K A.c_Picks "note_made" "Picks.note_made" s_Picks_note_made ["self","k","size"] A.f_Picks_note_made A.d_Picks_note_made
 m_Picks_count_picked:MethOk K A.c_Picks "count_picked" "Picks.count_picked" s_Picks_count_picked ["self","k","more"] A.f_Picks_count_picked A.d_Picks_count_picked
 m_Picks_of_nodes:MethOk K A.c_Picks "of_nodes" "Picks.of_nodes" s_Picks_of_nodes ["self"] A.f_Picks_of_nodes A.d_Picks_of_nodes
 m_Piece___init__:MethOk K A.c_Piece "__init__" "Piece.__init__" s_Piece___init__ ["self","number","place","size","owner","born"] A.f_Piece___init__ A.d_Piece___init__
 u_end_of:FunOk K mg "end_of" s_end_of ["place","size"] A.f_end_of A.d_end_of
 m_Pieces___init__:MethOk K A.c_Pieces "__init__" "Pieces.__init__" s_Pieces___init__ ["self"] A.f_Pieces___init__ A.d_Pieces___init__
 m_Pieces_how_many:MethOk K A.c_Pieces "how_many" "Pieces.how_many" s_Pieces_how_many ["self"] A.f_Pieces_how_many A.d_Pieces_how_many
 m_Pieces_has:MethOk K A.c_Pieces "has" "Pieces.has" s_Pieces_has ["self","place"] A.f_Pieces_has A.d_Pieces_has
 m_Pieces_living:MethOk K A.c_Pieces "living" "Pieces.living" s_Pieces_living ["self"] A.f_Pieces_living A.d_Pieces_living
 m_Pieces_eldest:MethOk K A.c_Pieces "eldest" "Pieces.eldest" s_Pieces_eldest ["self","k"] A.f_Pieces_eldest A.d_Pieces_eldest
 m_Pieces_rank:MethOk K A.c_Pieces "rank" "Pieces.rank" s_Pieces_rank ["self","place"] A.f_Pieces_rank A.d_Pieces_rank
 m_Pieces_holder:MethOk K A.c_Pieces "holder" "Pieces.holder" s_Pieces_holder ["self","at"] A.f_Pieces_holder A.d_Pieces_holder
 m_Pieces_is_free:MethOk K A.c_Pieces "is_free" "Pieces.is_free" s_Pieces_is_free ["self","place","size","left_out"] A.f_Pieces_is_free A.d_Pieces_is_free
 m_Pieces_put:MethOk K A.c_Pieces "put" "Pieces.put" s_Pieces_put ["self","piece"] A.f_Pieces_put A.d_Pieces_put
 m_Pieces_take:MethOk K A.c_Pieces "take" "Pieces.take" s_Pieces_take ["self","place"] A.f_Pieces_take A.d_Pieces_take
 u_size_class:FunOk K mg "size_class" s_size_class ["size"] A.f_size_class A.d_size_class
 u_age_class:FunOk K mg "age_class" s_age_class ["age"] A.f_age_class A.d_age_class
 m_Rows___init__:MethOk K A.c_Rows "__init__" "Rows.__init__" s_Rows___init__ ["self"] A.f_Rows___init__ A.d_Rows___init__
 m_Rows_note_made:MethOk K A.c_Rows "note_made" "Rows.note_made" s_Rows_note_made ["self","size"] A.f_Rows_note_made A.d_Rows_note_made
 m_Rows_note_moved:MethOk K A.c_Rows "note_moved" "Rows.note_moved" s_Rows_note_moved ["self","old_size","new_size"] A.f_Rows_note_moved A.d_Rows_note_moved
 m_Rows_note_went:MethOk K A.c_Rows "note_went" "Rows.note_went" s_Rows_note_went ["self","size","age"] A.f_Rows_note_went A.d_Rows_note_went
 m_Rows_by_size:MethOk K A.c_Rows "by_size" "Rows.by_size" s_Rows_by_size ["self"] A.f_Rows_by_size A.d_Rows_by_size
 m_Rows_by_age:MethOk K A.c_Rows "by_age" "Rows.by_age" s_Rows_by_age ["self"] A.f_Rows_by_age A.d_Rows_by_age
 u_least_reaching:FunOk K mg "least_reaching" s_least_reaching ["weighed","p"] A.f_least_reaching A.d_least_reaching
 m_Node___init__:MethOk K A.c_Node "__init__" "Node.__init__" s_Node___init__ ["self","above","who","depth"] A.f_Node___init__ A.d_Node___init__
 u_sum_of:FunOk K mg "sum_of" s_sum_of ["node","by"] A.f_sum_of A.d_sum_of
 m_Ways___init__:MethOk K A.c_Ways "__init__" "Ways.__init__" s_Ways___init__ ["self"] A.f_Ways___init__ A.d_Ways___init__
 m_Ways_has:MethOk K A.c_Ways "has" "Ways.has" s_Ways_has ["self","k"] A.f_Ways_has A.d_Ways_has
 m_Ways_depth_here:MethOk K A.c_Ways "depth_here" "Ways.depth_here" s_Ways_depth_here ["self"] A.f_Ways_depth_here A.d_Ways_depth_here
 m_Ways_enter:MethOk K A.c_Ways "enter" "Ways.enter" s_Ways_enter ["self","who"] A.f_Ways_enter A.d_Ways_enter
 m_Ways_unwind:MethOk K A.c_Ways "unwind" "Ways.unwind" s_Ways_unwind ["self","depth"] A.f_Ways_unwind A.d_Ways_unwind
 m_Ways_leave:MethOk K A.c_Ways "leave" "Ways.leave" s_Ways_leave ["self"] A.f_Ways_leave A.d_Ways_leave
 m_Ways_find:MethOk K A.c_Ways "find" "Ways.find" s_Ways_find ["self","way"] A.f_Ways_find A.d_Ways_find
 m_Ways_nodes_up:MethOk K A.c_Ways "nodes_up" "Ways.nodes_up" s_Ways_nodes_up ["self","k"] A.f_Ways_nodes_up A.d_Ways_nodes_up
 m_Ways_whos:MethOk K A.c_Ways "whos" "Ways.whos" s_Ways_whos ["self","k"] A.f_Ways_whos A.d_Ways_whos
 m_Ways_count_made:MethOk K A.c_Ways "count_made" "Ways.count_made" s_Ways_count_made ["self","k","size"] A.f_Ways_count_made A.d_Ways_count_made
 m_Ways_count_live:MethOk K A.c_Ways "count_live" "Ways.count_live" s_Ways_count_live ["self","k","more_pieces","more_bytes"] A.f_Ways_count_live A.d_Ways_count_live
 m_Ways_sums:MethOk K A.c_Ways "sums" "Ways.sums" s_Ways_sums ["self","by"] A.f_Ways_sums A.d_Ways_sums
 m_Ways_most:MethOk K A.c_Ways "most" "Ways.most" s_Ways_most ["self","by","k"] A.f_Ways_most A.d_Ways_most
 m_Ways_line:MethOk K A.c_Ways "line" "Ways.line" s_Ways_line ["self","k","much"] A.f_Ways_line A.d_Ways_line
 m_Ways_text:MethOk K A.c_Ways "text" "Ways.text" s_Ways_text ["self","by"] A.f_Ways_text A.d_Ways_text
 m_Ways_live_sums:MethOk K A.c_Ways "live_sums" "Ways.live_sums" s_Ways_live_sums ["self"] A.f_Ways_live_sums A.d_Ways_live_sums
 m_Ways_changes:MethOk K A.c_Ways "changes" "Ways.changes" s_Ways_changes ["self","before"] A.f_Ways_changes A.d_Ways_changes
 u_joined:FunOk K mg "joined" s_joined ["rows"] A.f_joined A.d_joined
 u_counted:FunOk K mg "counted" s_counted ["rows"] A.f_counted A.d_counted
 m_Book___init__:MethOk K A.c_Book "__init__" "Book.__init__" s_Book___init__ ["self"] A.f_Book___init__ A.d_Book___init__
 m_Book_begin:MethOk K A.c_Book "begin" "Book.begin" s_Book_begin ["self"] A.f_Book_begin A.d_Book_begin
 m_Book_enter:MethOk K A.c_Book "enter" "Book.enter" s_Book_enter ["self","who"] A.f_Book_enter A.d_Book_enter
 m_Book_leave:MethOk K A.c_Book "leave" "Book.leave" s_Book_leave ["self"] A.f_Book_leave A.d_Book_leave
 m_Book_unwind:MethOk K A.c_Book "unwind" "Book.unwind" s_Book_unwind ["self","depth"] A.f_Book_unwind A.d_Book_unwind
 m_Book_tick:MethOk K A.c_Book "tick" "Book.tick" s_Book_tick ["self","n"] A.f_Book_tick A.d_Book_tick
 m_Book_made:MethOk K A.c_Book "made" "Book.made" s_Book_made ["self","place","size"] A.f_Book_made A.d_Book_made
 m_Book_went:MethOk K A.c_Book "went" "Book.went" s_Book_went ["self","place"] A.f_Book_went A.d_Book_went
 m_Book_moved:MethOk K A.c_Book "moved" "Book.moved" s_Book_moved ["self","place","new_place","new_size"] A.f_Book_moved A.d_Book_moved
 m_Book_count_live:MethOk K A.c_Book "count_live" "Book.count_live" s_Book_count_live ["self","k","more_pieces","more_bytes"] A.f_Book_count_live A.d_Book_count_live
 m_Book_now:MethOk K A.c_Book "now" "Book.now" s_Book_now ["self"] A.f_Book_now A.d_Book_now
 m_Book_node:MethOk K A.c_Book "node" "Book.node" s_Book_node ["self","k"] A.f_Book_node A.d_Book_node
 m_Book_find:MethOk K A.c_Book "find" "Book.find" s_Book_find ["self","way"] A.f_Book_find A.d_Book_find
 m_Book_path:MethOk K A.c_Book "path" "Book.path" s_Book_path ["self","k"] A.f_Book_path A.d_Book_path
 m_Book_sizes:MethOk K A.c_Book "sizes" "Book.sizes" s_Book_sizes ["self"] A.f_Book_sizes A.d_Book_sizes
 m_Book_ages:MethOk K A.c_Book "ages" "Book.ages" s_Book_ages ["self"] A.f_Book_ages A.d_Book_ages
 m_Book_oldest:MethOk K A.c_Book "oldest" "Book.oldest" s_Book_oldest ["self","k"] A.f_Book_oldest A.d_Book_oldest
 m_Book_top:MethOk K A.c_Book "top" "Book.top" s_Book_top ["self","by","k"] A.f_Book_top A.d_Book_top
 m_Book_mark:MethOk K A.c_Book "mark" "Book.mark" s_Book_mark ["self"] A.f_Book_mark A.d_Book_mark
 m_Book_since:MethOk K A.c_Book "since" "Book.since" s_Book_since ["self","m"] A.f_Book_since A.d_Book_since
 m_Book_holds:MethOk K A.c_Book "holds" "Book.holds" s_Book_holds ["self","at"] A.f_Book_holds A.d_Book_holds
 m_Book_weighed:MethOk K A.c_Book "weighed" "Book.weighed" s_Book_weighed ["self","what"] A.f_Book_weighed A.d_Book_weighed
 m_Book_share:MethOk K A.c_Book "share" "Book.share" s_Book_share ["self","what","p"] A.f_Book_share A.d_Book_share
 m_Book_pick:MethOk K A.c_Book "pick" "Book.pick" s_Book_pick ["self","rate"] A.f_Book_pick A.d_Book_pick
 m_Book_picked:MethOk K A.c_Book "picked" "Book.picked" s_Book_picked ["self"] A.f_Book_picked A.d_Book_picked
 m_Book_lines:MethOk K A.c_Book "lines" "Book.lines" s_Book_lines ["self","what"] A.f_Book_lines A.d_Book_lines
 u_answers:FunOk K mg "answers" s_answers ["calls"] A.f_answers A.d_answers
 lc_Pieces_eldest:A.d_Pieces_eldest.code=.ref A.k_Pieces_eldest
 lh_Pieces_eldest:PySem.W.codeHdIn K A.k_Pieces_eldest A.t_Pieces_eldest=true
 lc_Ways_most:A.d_Ways_most.code=.ref A.k_Ways_most
 lh_Ways_most:PySem.W.codeHdIn K A.k_Ways_most A.t_Ways_most=true
 bm_m:mg "__builtins__"=some (.ref A.a_bm)
 bm_1:A.a_bm≠builtinsNs
 bm_2:A.a_bm≠mainGlobals
 bm_3:A.o_bm.cls=.type "module"
 bm_4:A.o_bm.dict=some builtinsNs
 bm_5:A.o_bm.data=.plain
end Bk
namespace Bk
open PySem L2
open Sh28 (Piece hits)
theorem boot_max:bootBuiltins "max"=some (.builtin "max"):=by decide +kernel
def pieceV (q:Piece):List V:=[.int q.number,.int q.place,.int q.size,.int q.node,.int q.born]
structure PcsAt (A:Adr) (H:Hp) (p d l:Addr) (L:List (Addr × Piece)) (xs:List Int):Prop where
 ob:Ob H p A.c_Pieces K_Pieces [.ref d,.ref l]
 dict:∃ kvs,H d=some (.dK kvs)∧(kvs.map (·.1)).Nodup∧kvs.length=L.length∧∀ (z:Int) (v:V),valV kvs (Sum.inl z)=some v↔∃ x∈L,(x.2.place:Int)=z∧v=.ref x.1
 lst:H l=some (.lst (xs.map V.int))
 pl:Places xs (L.map (·.2))
 dis:Dis (L.map (·.2))
 num:Nums (L.map (·.2))
 obs:∀ x∈L,Ob H x.1 A.c_Piece K_Piece (pieceV x.2)
 nd:(L.map (·.1)).Nodup
 few:L.length≤65536
section
variable {P:Program}{w:World}{K:PySem.W.Frag}{mg:Str→Option Value}{base:Heap}{A:Adr}
def sp_within (A:Adr):Sp:=fun vs H Q _=>∃ n m:Int,vs=[.int n,.int m]∧Q (.bl (decide (0≤n∧n≤m))) H
theorem sc_within:FnScope ["number","most"] ["number","most"] (defScope s_within):=⟨rfl,rfl,rfl,by decide +kernel,rfl,by decide +kernel,by decide +kernel⟩
theorem ok_within (T:Txt K mg A):FnOk P w K mg base CX0 1 A.f_within A.d_within ["number","most"] (sp_within A):=by
 refine (T.u_within.fn).ok sc_within (fun vs H Q E h=>?_) (fun cdv AA outer s H vs Q E hr h=>?_)
 ·obtain ⟨n,m,rfl,_⟩:=h
  rfl
 ·obtain ⟨n,m,rfl,k⟩:=h
  refine ⟨_,(pss_one (ps_ret (pe_chain op_le op_le pe_int (pv 0) (pv 1)))),?_⟩
  refine ⟨_,rfl,_,_,rfl,rfl,_,rfl,?_⟩
  refine ite2 (fun h1=>?_) (fun h1=>?_)
  ·refine ⟨_,rfl,_,_,rfl,rfl,?_⟩
   have h1:0≤n:=of_decide_eq_true h1
   have e:decide (n≤m)=decide (0≤n∧n≤m):=by simp [h1]
   show Q (.bl (decide (n≤m))) H
   rw [e];exact k
  ·have h1:¬ 0≤n:=fun q=>h1 (decide_eq_true q)
   have e:false=decide (0≤n∧n≤m):=by simp [h1]
   show Q (.bl false) H
   rw [e];exact k
def sp_end_of (A:Adr):Sp:=fun vs H Q _=>∃ n m:Int,vs=[.int n,.int m]∧Q (.int (n+max m 1)) H
theorem sc_end_of:FnScope ["place","size"] ["place","size"] (defScope s_end_of):=⟨rfl,rfl,rfl,by decide +kernel,rfl,by decide +kernel,by decide +kernel⟩
theorem ok_end_of (T:Txt K mg A):FnOk P w K mg base CX0 1 A.f_end_of A.d_end_of ["place","size"] (sp_end_of A):=by
 refine (T.u_end_of.fn).ok sc_end_of (fun vs H Q E h=>?_) (fun cdv AA outer s H vs Q E hr h=>?_)
 ·obtain ⟨n,m,rfl,_⟩:=h
  rfl
 ·obtain ⟨n,m,rfl,k⟩:=h
  refine ⟨_,(pss_one (ps_ret (pe_op op_add (pv 0) (pe_callB (call_max2 rfl) (by rfl) T.b_max boot_max (pa_cons (pv 1) (pa_cons pe_int pa_nil)))))),?_⟩
  refine ⟨_,rfl,_,rfl,_,_,rfl,_,_,rfl,rfl,?_⟩
  have e:n+max m 1=n+(if 1 > m then 1 else m):=by
   split<;>omega
  rw [e] at k
  exact k
def sp_Piece___init__ (A:Adr):Sp:=fun vs H Q _=>∃ (p dx:Addr) (a b c d e:V),vs=[.ref p,a,b,c,d,e]∧H p=some (.ins A.c_Piece dx []) ∧
 ∀ H':Hp,Ob H' p A.c_Piece K_Piece [a,b,c,d,e]→(∀ x,x≠p→H' x=H x)→Q .non H'
theorem sc_Piece___init__:FnScope ["self","number","place","size","owner","born"] ["self","number","place","size","owner","born"] (defScope s_Piece___init__):=⟨rfl,rfl,rfl,by decide +kernel,rfl,by decide +kernel,by decide +kernel⟩
theorem ok_Piece___init__ (T:Txt K mg A):FnOk P w K mg base CX0 1 A.f_Piece___init__ A.d_Piece___init__ ["self","number","place","size","owner","born"] (sp_Piece___init__ A):=by
 refine (T.m_Piece___init__.fn).ok sc_Piece___init__ (fun vs H Q E h=>?_) (fun cdv AA outer s H vs Q E hr h=>?_)
 ·obtain ⟨p,dx,a,b,c,d,e,rfl,_⟩:=h
  rfl
 ·obtain ⟨p,dx,a,b,c,d,e,rfl,hp,k⟩:=h
  refine ⟨_,(pss_cons (ps_fld (pv 0) (pv 1) rfl)
   (pss_cons (ps_fld (pv 0) (pv 2) rfl)
   (pss_cons (ps_fld (pv 0) (pv 3) rfl)
   (pss_cons (ps_fld (pv 0) (pv 4) rfl)
   (pss_one (ps_fld (pv 0) (pv 5) rfl)))))),?_⟩
  refine ⟨_,rfl,_,rfl,nf_fld (ks:=[]) (vs:=[]) T.fd_Piece_number ⟨dx,hp⟩ rfl rfl (by decide +kernel) fun H1 h1 k1=>?_⟩
  refine ⟨_,rfl,_,rfl,nf_fld T.fd_Piece_place h1 rfl rfl (by decide +kernel) fun H2 h2 k2=>?_⟩
  refine ⟨_,rfl,_,rfl,nf_fld T.fd_Piece_size h2 rfl rfl (by decide +kernel) fun H3 h3 k3=>?_⟩
  refine ⟨_,rfl,_,rfl,nf_fld T.fd_Piece_owner h3 rfl rfl (by decide +kernel) fun H4 h4 k4=>?_⟩
  refine ⟨_,rfl,_,rfl,nf_fld T.fd_Piece_born h4 rfl rfl (by decide +kernel) fun H5 h5 k5=>?_⟩
  exact k H5 h5 fun x hx=>by rw [k5 x hx,k4 x hx,k3 x hx,k2 x hx,k1 x hx]
def sp_Pieces___init__ (A:Adr):Sp:=fun vs H Q _=>∃ (p dx:Addr),vs=[.ref p]∧H p=some (.ins A.c_Pieces dx []) ∧
 ∀ (d l:Addr) (H':Hp),H d=none→H l=none→d≠l→PcsAt A H' p d l [] []→(∀ x,x≠p→x≠d→x≠l→H' x=H x)→Q .non H'
theorem sc_Pieces___init__:FnScope ["self"] ["self"] (defScope s_Pieces___init__):=⟨rfl,rfl,rfl,by decide +kernel,rfl,by decide +kernel,by decide +kernel⟩
theorem ok_Pieces___init__ (T:Txt K mg A):FnOk P w K mg base CX0 1 A.f_Pieces___init__ A.d_Pieces___init__ ["self"] (sp_Pieces___init__ A):=by
 refine (T.m_Pieces___init__.fn).ok sc_Pieces___init__ (fun vs H Q E h=>?_) (fun cdv AA outer s H vs Q E hr h=>?_)
 ·obtain ⟨p,dx,rfl,_⟩:=h
  rfl
 ·obtain ⟨p,dx,rfl,hp,k⟩:=h
  refine ⟨_,(pss_cons (ps_fld (pv 0) pe_dnewK rfl)
   (pss_one (ps_fld (pv 0) (pe_lst pa_nil) rfl))),?_⟩
  intro d hd
  have npd:p≠d:=ne_of_none hp hd
  refine ⟨_,rfl,nf_fld (ks:=[]) (vs:=[]) T.fd_Pieces_by_place ⟨dx,by rw [upd_ne npd];exact hp⟩ rfl rfl (by decide +kernel) fun H1 h1 k1=>?_⟩
  refine ⟨by decide,fun l hl=>?_⟩
  have npl:p≠l:=ne_of_none h1.choose_spec hl
  have ed:H1 d=some (.dK []):=by rw [k1 d npd.symm,upd_same]
  have ndl:d≠l:=ne_of_none ed hl
  have hl0:H l=none:=by rw [k1 l npl.symm,upd_ne ndl.symm] at hl;exact hl
  refine ⟨_,rfl,nf_fld T.fd_Pieces_places (Ob.upd h1 npl) rfl rfl (by decide +kernel) fun H2 h2 k2=>?_⟩
  refine k d l H2 hd hl0 ndl ⟨h2,⟨[],?_,List.nodup_nil,rfl,fun z v=>?_⟩,?_,places_nil,.nil,.nil,fun x hx=>?_,List.nodup_nil,by decide⟩ fun x h1x h2x h3x=>?_
  ·rw [k2 d npd.symm,upd_ne ndl,ed]
  ·rw [valV_nil]
   constructor
   ·intro h;cases h
   ·rintro ⟨x,hx,_⟩
    exact absurd hx (by simp)
  ·rw [k2 l npl.symm,upd_same];rfl
  ·exact absurd hx (by simp)
  ·rw [k2 x h1x,upd_ne h3x,k1 x h1x,upd_ne h2x]
def sp_Pieces_how_many (A:Adr):Sp:=fun vs H Q _=>∃ (p d l:Addr) (L:List (Addr × Piece)) (xs:List Int),vs=[.ref p]∧PcsAt A H p d l L xs∧Q (.int L.length) H
theorem sc_Pieces_how_many:FnScope ["self"] ["self"] (defScope s_Pieces_how_many):=⟨rfl,rfl,rfl,by decide +kernel,rfl,by decide +kernel,by decide +kernel⟩
theorem ok_Pieces_how_many (T:Txt K mg A):FnOk P w K mg base CX0 1 A.f_Pieces_how_many A.d_Pieces_how_many ["self"] (sp_Pieces_how_many A):=by
 refine (T.m_Pieces_how_many.fn).ok sc_Pieces_how_many (fun vs H Q E h=>?_) (fun cdv AA outer s H vs Q E hr h=>?_)
 ·obtain ⟨p,d,l,L,xs,rfl,_⟩:=h
  rfl
 ·obtain ⟨p,d,l,L,xs,rfl,R,k⟩:=h
  refine ⟨_,(pss_one (ps_ret (pe_callB call_len_seq (by rfl) T.b_len PySem.boot_len (pa_cons (pe_fld (pv 0) rfl) pa_nil)))),?_⟩
  refine ⟨_,rfl,rd_fld T.fd_Pieces_places R.ob rfl ⟨l,_,rfl,.inl (SqL.of R.lst),?_⟩⟩
  have e:=R.pl.len
  rw [List.length_map] at e ⊢
  rw [e];exact k
def sp_Pieces_has (A:Adr):Sp:=fun vs H Q _=>∃ (p d l:Addr) (L:List (Addr × Piece)) (xs:List Int) (z:Int),vs=[.ref p,.int z]∧PcsAt A H p d l L xs∧Q (.bl (L.any fun x=>decide ((x.2.place:Int)=z))) H
theorem sc_Pieces_has:FnScope ["self","place"] ["self","place"] (defScope s_Pieces_has):=⟨rfl,rfl,rfl,by decide +kernel,rfl,by decide +kernel,by decide +kernel⟩
theorem ok_Pieces_has (T:Txt K mg A):FnOk P w K mg base CX0 1 A.f_Pieces_has A.d_Pieces_has ["self","place"] (sp_Pieces_has A):=by
 refine (T.m_Pieces_has.fn).ok sc_Pieces_has (fun vs H Q E h=>?_) (fun cdv AA outer s H vs Q E hr h=>?_)
 ·obtain ⟨p,d,l,L,xs,z,rfl,_⟩:=h
  rfl
 ·obtain ⟨p,d,l,L,xs,z,rfl,R,k⟩:=h
  refine ⟨_,(pss_one (ps_ret (pe_cmp (pc_din (hu_of hr) (pv 1) (pe_fld (pv 0) rfl))))),?_⟩
  obtain ⟨kvs,hd,hn,hl,hv⟩:=R.dict
  refine ⟨_,rfl,_,rfl,rd_fld T.fd_Pieces_by_place R.ob rfl ⟨d,_,rfl,DGet.k (k:=Sum.inl z) hd,?_⟩⟩
  have e:(valV kvs (Sum.inl z:Key)).isSome=L.any fun x=>decide ((x.2.place:Int)=z):=by
   rw [Bool.eq_iff_iff,Option.isSome_iff_exists,List.any_eq_true]
   constructor
   ·rintro ⟨v,h⟩
    obtain ⟨x,hx,e,_⟩:=(hv z v).mp h
    exact ⟨x,hx,decide_eq_true e⟩
   ·rintro ⟨x,hx,e⟩
    exact ⟨_,(hv z _).mpr ⟨x,hx,of_decide_eq_true e,rfl⟩⟩
  rw [e];exact k
end
section
variable {P:Program}{w:World}{K:PySem.W.Frag}{mg:Str→Option Value}{base:Heap}{A:Adr}
def sp_Pieces_rank (A:Adr):Sp:=fun vs H Q _=>∃ (p d l:Addr) (z:Int) (xs:List Int),vs=[.ref p,.int z]∧Ob H p A.c_Pieces K_Pieces [.ref d,.ref l]∧H l=some (.lst (xs.map V.int))∧xs.Pairwise (·<·)∧∀ r:Nat,IsRank xs z r→Q (.int r) H
theorem sc_Pieces_rank:FnScope ["self","place","low","high","middle"] ["self","place"] (defScope s_Pieces_rank):=⟨rfl,rfl,rfl,by decide +kernel,rfl,by decide +kernel,by decide +kernel⟩
theorem ok_Pieces_rank (T:Txt K mg A):FnOk P w K mg base CX0 1 A.f_Pieces_rank A.d_Pieces_rank ["self","place"] (sp_Pieces_rank A):=by
 refine (T.m_Pieces_rank.fn).ok sc_Pieces_rank (fun vs H Q E h=>?_) (fun cdv AA outer s H vs Q E hr h=>?_)
 ·obtain ⟨p,d,l,z,xs,rfl,_⟩:=h
  rfl
 ·obtain ⟨p,d,l,z,xs,rfl,hp,hl,hs,k⟩:=h
  refine ⟨_,(pss_cons (ps_set (i:=2) sc_Pieces_rank.nd rfl (Or.inl rfl) pe_int)
   (pss_cons (ps_set (i:=3) sc_Pieces_rank.nd rfl (Or.inl rfl) (pe_callB call_len_seq (by rfl) T.b_len PySem.boot_len (pa_cons (pe_fld (pv 0) rfl) pa_nil)))
   (pss_cons (ps_while PassesOwn.never (pt_cmpR op_lt (pv 2) (pv 3) (nomark _))
    (pss_cons (ps_set (i:=4) sc_Pieces_rank.nd rfl (Or.inl rfl) (pe_op op_fdivW (pe_op op_add (pv 2) (pv 3)) pe_int))
    (pss_one (ps_if (pt_cmpR op_lt (pe_ix ix_list (pe_fld (pv 0) rfl) (pv 4) (fun _ _=>rfl)) (pv 1) (nomark _))
     (pss_one (ps_set (i:=2) sc_Pieces_rank.nd rfl (Or.inl rfl) (pe_op op_add (pv 4) pe_int)))
     (pss_one (ps_set (i:=3) sc_Pieces_rank.nd rfl (Or.inl rfl) (pv 4)))))))
   (pss_one (ps_ret (pv 2)))))),?_⟩
  refine ⟨_,rfl,rd_fld T.fd_Pieces_places hp rfl ⟨l,_,rfl,.inl (SqL.of hl),?_⟩⟩
  refine ⟨fun m σ H'=>H'=H∧∃ (lo hi:Nat) (v:Option V),σ=[some (.ref p),some (.int z),some (.int lo),some (.int hi),v]∧m=hi - lo∧lo≤hi∧hi≤xs.length∧(∀ (i:Nat) (x:Int),i<lo→xs[i]?=some x→x<z)∧(∀ (i:Nat) (x:Int),hi≤i→xs[i]?=some x→z≤x),
   ⟨_,rfl,0,xs.length,none,?_,rfl,Nat.zero_le _,Nat.le_refl _,?_,?_⟩,?_⟩
  ·rw [List.length_map];rfl
  ·intro i x h;omega
  ·intro i x h e
   have:=(List.getElem?_eq_some_iff.mp e).1
   omega
  ·rintro m σ H' ⟨rfl,lo,hi,m,rfl,rfl,h1,h2,h3,h4⟩
   refine ⟨_,rfl,_,rfl,_,_,rfl,rfl,_,rfl,?_⟩
   refine ite2 (fun c=>wl_go ?_) (fun c=>?_)
   ·have c:(lo:Int)<hi:=of_decide_eq_true c
    obtain ⟨md,hmd⟩:∃ md:Nat,((lo:Int)+hi) / 2=(md:Int):=⟨(lo+hi) / 2,by omega⟩
    have hm1:lo≤md:=by omega
    have hm2:md<hi:=by omega
    obtain ⟨y,hy⟩:∃ y,xs[md]?=some y:=⟨xs[md],List.getElem?_eq_getElem (by omega)⟩
    refine ⟨_,rfl,_,rfl,_,_,rfl,rfl,_,_,rfl,rfl,⟨by decide,by decide⟩,?_⟩
    refine ⟨_,rfl,rd_fld T.fd_Pieces_places hp rfl ⟨_,rfl,l,_,_,_,rfl,rfl,SqL.of hl,at_of (j:=md) (v:=.int y) hmd (by rw [List.getElem?_map,hy];rfl),_,rfl,_,_,rfl,rfl,_,rfl,?_⟩⟩
    refine ite2 (fun c2=>?_) (fun c2=>?_)
    ·have c2:y<z:=of_decide_eq_true c2
     refine ⟨_,rfl,_,_,rfl,rfl,hi - (md+1),by omega,rfl,md+1,hi,some (.int md),?_,rfl,by omega,h2,?_,h4⟩
     ·show [some (V.ref p),some (V.int z),some (V.int (((lo:Int)+hi) / 2+1)),some (V.int hi),some (V.int (((lo:Int)+hi) / 2))]=_
      rw [hmd];rfl
     ·intro i x hi' ex
      by_cases e:i=md
      ·subst e;rw [hy] at ex;cases ex;exact c2
      ·have:=srt_lt hs ex hy (by omega);omega
    ·have c2:¬ y<z:=fun q=>c2 (decide_eq_true q)
     refine ⟨_,rfl,md - lo,by omega,rfl,lo,md,some (.int md),?_,rfl,hm1,by omega,h3,?_⟩
     ·show [some (V.ref p),some (V.int z),some (V.int (lo:Int)),some (V.int (((lo:Int)+hi) / 2)),some (V.int (((lo:Int)+hi) / 2))]=_
      rw [hmd]
     ·intro i x hi' ex
      by_cases e:i=md
      ·subst e;rw [hy] at ex;cases ex;omega
      ·have:=srt_lt hs hy ex (by omega);omega
   ·have c:¬ (lo:Int)<hi:=fun q=>c (decide_eq_true q)
    exact ⟨_,rfl,k lo ⟨by omega,h3,fun i x hi'=>h4 i x (by omega)⟩⟩
theorem rd_meth {H:Hp}{p C:Addr}{ks:List Str}{vs:List V}{m:Str}{R:Prop} (h:Ob H p C ks vs) (hn:ks.contains m=false) (q:R):∃ a dx fs,V.ref p=.ref a∧H a=some (.ins C dx fs)∧fs.lookup m=none∧R:=by
 obtain ⟨dx,h⟩:=h
 exact ⟨p,dx,_,rfl,h,fz_no hn,q⟩
def sp_Pieces_is_free (A:Adr):Sp:=fun vs H Q _=>∃ (p d l:Addr) (L:List (Addr × Piece)) (xs:List Int) (z n:Nat) (lo:Int),vs=[.ref p,.int z,.int n,.int lo]∧PcsAt A H p d l L xs ∧
 Q (.bl (!((L.map (·.2)).any fun q=>decide ((q.place:Int)≠lo) && hits z n q))) H
theorem sc_Pieces_is_free:FnScope ["self","place","size","left_out","after","lower"] ["self","place","size","left_out"] (defScope s_Pieces_is_free):=⟨rfl,rfl,rfl,by decide +kernel,rfl,by decide +kernel,by decide +kernel⟩
theorem ok_Pieces_is_free (T:Txt K mg A):FnOk P w K mg base CX0 2 A.f_Pieces_is_free A.d_Pieces_is_free ["self","place","size","left_out"] (sp_Pieces_is_free A):=by
 refine (T.m_Pieces_is_free.fn).ok sc_Pieces_is_free (fun vs H Q E h=>?_) (fun cdv AA outer s H vs Q E hr h=>?_)
 ·obtain ⟨p,d,l,L,xs,z,n,lo,rfl,_⟩:=h
  rfl
 ·obtain ⟨p,d,l,L,xs,z,n,lo,rfl,R,k⟩:=h
  refine ⟨_,(pss_cons (ps_set (i:=4) sc_Pieces_is_free.nd rfl (Or.inl rfl) (pe_meth (pv 0) T.cl_Pieces T.m_Pieces_rank.me (ok_Pieces_rank T) (hr.mono (by decide)) T.m_Pieces_rank.bi .nil pass0 (pa_cons (pv 1) pa_nil)))
   (pss_cons (ps_if (pw_and (pt_cmpR op_gt (pv 4) pe_int (nomark _)) (pw_and1 (pt_cmpR op_ne (pe_ix ix_list (pe_fld (pv 0) rfl) (pe_op op_sub (pv 4) pe_int) (fun _ _=>rfl)) (pv 3) (nomark _)))).pt
    (pss_cons (ps_set (i:=5) sc_Pieces_is_free.nd rfl (Or.inl rfl) (pe_dget (hu_of hr) (pe_fld (pv 0) rfl) (pe_ix ix_list (pe_fld (pv 0) rfl) (pe_op op_sub (pv 4) pe_int) (fun _ _=>rfl)) (fun _ _=>rfl)))
    (pss_one (ps_if (pt_cmpR op_gt (pe_call (ok_end_of T) (hr.mono (by decide)) (by rfl) T.u_end_of.mg T.u_end_of.kp T.u_end_of.bi .nil pass0 (pa_cons (pe_fld (pv 5) rfl) (pa_cons (pe_fld (pv 5) rfl) pa_nil))) (pv 1) (nomark _))
     (pss_one (ps_ret pe_bl))
     pss_nil)))
    pss_nil)
   (pss_cons (ps_if (pw_and (pt_cmpR op_lt (pv 4) (pe_callB call_len_seq (by rfl) T.b_len PySem.boot_len (pa_cons (pe_fld (pv 0) rfl) pa_nil)) (nomark _)) (pw_and1 (pt_cmpR op_eq (pe_ix ix_list (pe_fld (pv 0) rfl) (pv 4) (fun _ _=>rfl)) (pv 3) (nomark _)))).pt
    (pss_one (ps_aug (i:=4) sc_Pieces_is_free.nd rfl (Or.inl rfl) pe_int ip_add))
    pss_nil)
   (pss_one (ps_ret (pe_or (pe_cmpR op_eq (pv 4) (pe_callB call_len_seq (by rfl) T.b_len PySem.boot_len (pa_cons (pe_fld (pv 0) rfl) pa_nil)) (nomark _)) (pe_one (pe_cmpR op_le (pe_call (ok_end_of T) (hr.mono (by decide)) (by rfl) T.u_end_of.mg T.u_end_of.kp T.u_end_of.bi .nil pass0 (pa_cons (pv 1) (pa_cons (pv 2) pa_nil))) (pe_ix ix_list (pe_fld (pv 0) rfl) (pv 4) (fun _ _=>rfl)) (nomark _))))))))),?_⟩
  obtain ⟨kvs,hd,hn,hl,hv⟩:=R.dict
  refine ⟨_,rfl,rd_meth R.ob (by decide +kernel) ⟨_,rfl,p,d,l,z,xs,rfl,R.ob,R.lst,R.pl.srt,fun r hr'=>?_⟩⟩
  have rest:∀ v5:Option V,(r=0∨xs[r - 1]?=some lo∨∃ q∈L.map (·.2),xs[r - 1]?=some (q.place:Int)∧q.place+max q.size 1≤z)→∀ D:Ends,D.rt=Q →
    (tSeq (tIfS (tAnd (tTest (tOp (rI0 fun i j=>.bl (decide (i<j))) (tVar 4) (tCB (fun xs H Q=>∃ p ys,xs=[.ref p]∧(SqL K H p ys∨SqT K H p ys)∧Q (.int ys.length) H) (tCons (tFld K (tVar 0) "places") tNil))))
     (tTest (tOp rEq (tOp (rIxL K) (tFld K (tVar 0) "places") (tVar 4)) (tVar 3)))) (tAug 4 (tC (.int 1)) (ipI fun i j=>i+j)) tNext)
     (tRet (tOrV (tOp rEq (tVar 4) (tCB (fun xs H Q=>∃ p ys,xs=[.ref p]∧(SqL K H p ys∨SqT K H p ys)∧Q (.int ys.length) H) (tCons (tFld K (tVar 0) "places") tNil)))
      (tOp (rI0 fun i j=>.bl (decide (i≤j))) (tCall (sp_end_of A) [] E0 (tCons (tVar 1) (tCons (tVar 2) tNil))) (tOp (rIxL K) (tFld K (tVar 0) "places") (tVar 4)))))) D [some (.ref p),some (.int z),some (.int n),some (.int lo),some (.int r),v5] H:=by
   intro v5 hlow D hD
   have fin:∀ a:Nat,a=(if xs[r]?=some lo then r+1 else r)→(tRet (tOrV (tOp rEq (tVar 4) (tCB (fun xs H Q=>∃ p ys,xs=[.ref p]∧(SqL K H p ys∨SqT K H p ys)∧Q (.int ys.length) H) (tCons (tFld K (tVar 0) "places") tNil)))
      (tOp (rI0 fun i j=>.bl (decide (i≤j))) (tCall (sp_end_of A) [] E0 (tCons (tVar 1) (tCons (tVar 2) tNil))) (tOp (rIxL K) (tFld K (tVar 0) "places") (tVar 4))))) D [some (.ref p),some (.int z),some (.int n),some (.int lo),some (.int (a:Int)),v5] H:=by
    intro a ha
    have key:=free_yes (size:=n) R.pl R.dis hr' hlow ha
    rw [key] at k
    refine ⟨_,rfl,_,rfl,rd_fld T.fd_Pieces_places R.ob rfl ⟨l,_,rfl,.inl (SqL.of R.lst),rfl,_,rfl,?_⟩⟩
    have hcast:decide (V.int (a:Int)=V.int ((xs.map V.int).length:Int))=decide (a=xs.length):=by
     rw [List.length_map,dec_int,Bool.eq_iff_iff,beq_iff_eq,decide_eq_true_eq]
     omega
    rw [hcast,hD]
    refine ite2 (fun c=>?_) (fun c=>?_)
    ·have c:a=xs.length:=of_decide_eq_true c
     rw [decide_eq_true c] at k
     simpa using k
    ·have c:¬ a=xs.length:=fun q=>c (decide_eq_true q)
     have hal:a≤xs.length:=by
      rw [ha]
      split
      ·have:=(List.getElem?_eq_some_iff.mp (by assumption)).1;omega
      ·exact hr'.le
     obtain ⟨y,hy⟩:∃ y,xs[a]?=some y:=⟨xs[a],List.getElem?_eq_getElem (by omega)⟩
     refine ⟨_,rfl,_,rfl,z,n,rfl,_,rfl,rd_fld T.fd_Pieces_places R.ob rfl ⟨_,rfl,l,_,_,_,rfl,rfl,SqL.of R.lst,atI_nat (j:=a) (v:=.int y) (by rw [List.getElem?_map,hy];rfl),_,_,rfl,rfl,?_⟩⟩
     rw [decide_eq_false c,hy] at k
     simpa using k
   refine ⟨_,rfl,_,rfl,rd_fld T.fd_Pieces_places R.ob rfl ⟨l,_,rfl,.inl (SqL.of R.lst),_,_,rfl,rfl,_,rfl,?_⟩⟩
   refine ite2 (fun c=>?_) (fun c=>?_)
   ·have c:(r:Int)<((xs.map V.int).length:Int):=of_decide_eq_true c
    rw [List.length_map] at c
    obtain ⟨y,hy⟩:∃ y,xs[r]?=some y:=⟨xs[r],List.getElem?_eq_getElem (by omega)⟩
    refine ⟨_,rfl,rd_fld T.fd_Pieces_places R.ob rfl ⟨_,rfl,l,_,_,_,rfl,rfl,SqL.of R.lst,atI_nat (j:=r) (v:=.int y) (by rw [List.getElem?_map,hy];rfl),_,rfl,rfl,_,rfl,?_⟩⟩
    rw [dec_int]
    refine ite2 (fun c2=>?_) (fun c2=>?_)
    ·have c2:y=lo:=beq_iff_eq.mp c2
     refine ⟨_,rfl,_,_,rfl,rfl,?_⟩
     exact fin (r+1) (by rw [hy,c2,if_pos rfl])
    ·have c2:¬ y=lo:=fun q=>c2 (beq_iff_eq.mpr q)
     exact fin r (by rw [hy,if_neg fun q=>c2 (Option.some.inj q)])
   ·have c:¬ (r:Int)<((xs.map V.int).length:Int):=fun q=>c (decide_eq_true q)
    rw [List.length_map] at c
    refine iteF ?_
    exact fin r (by rw [List.getElem?_eq_none (by omega),if_neg (by intro q;cases q)])
  refine ⟨_,rfl,_,_,rfl,rfl,_,rfl,?_⟩
  refine ite2 (fun c=>?_) (fun c=>?_)
  ·have c:(0:Int)<r:=of_decide_eq_true c
   have hrl:=hr'.le
   obtain ⟨y,hy⟩:∃ y,xs[r - 1]?=some y:=⟨xs[r - 1],List.getElem?_eq_getElem (by omega)⟩
   refine ⟨_,rfl,rd_fld T.fd_Pieces_places R.ob rfl ⟨_,rfl,_,_,rfl,rfl,l,_,_,_,rfl,rfl,SqL.of R.lst,at_of (j:=r - 1) (v:=.int y) (by omega) (by rw [List.getElem?_map,hy];rfl),_,rfl,rfl,_,rfl,?_⟩⟩
   rw [dec_int]
   refine ite2 (fun c2=>?_) (fun c2=>?_)
   ·have c2:¬ y=lo:=fun q=>by rw [q] at c2;simp at c2
    obtain ⟨q,hq,eq⟩:=R.pl.to (r - 1) y hy
    obtain ⟨x,hx,rfl⟩:=List.mem_map.mp hq
    have hyz:=hr'.lo (r - 1) y (by omega) hy
    refine ⟨_,rfl,rd_fld T.fd_Pieces_by_place R.ob rfl ⟨_,rfl,rd_fld T.fd_Pieces_places R.ob rfl ⟨_,rfl,_,_,rfl,rfl,l,_,_,_,rfl,rfl,SqL.of R.lst,at_of (j:=r - 1) (v:=.int y) (by omega) (by rw [List.getElem?_map,hy];rfl),
     d,.ref x.1,rfl,?_,?_⟩⟩⟩
    ·have:=DGet.k (k:=Sum.inl y) hd
     rw [(hv y _).mpr ⟨x,hx,eq,rfl⟩] at this
     exact this
    ·refine ⟨_,rfl,rd_fld T.fd_Piece_place (R.obs x hx) rfl ⟨_,rfl,rd_fld T.fd_Piece_size (R.obs x hx) rfl ⟨_,_,rfl,_,rfl,_,_,rfl,rfl,_,rfl,?_⟩⟩⟩
     refine ite2 (fun c3=>?_) (fun c3=>?_)
     ·have c3:(z:Int)<(x.2.place:Int)+max (x.2.size:Int) 1:=of_decide_eq_true c3
      rw [free_no (size:=n) (lo:=lo) R.pl R.dis hq (by rw [eq];exact c2) (by omega) (by omega)] at k
      exact k
     ·have c3:¬ (z:Int)<(x.2.place:Int)+max (x.2.size:Int) 1:=fun q=>c3 (decide_eq_true q)
      exact rest _ (.inr (.inr ⟨x.2,hq,by rw [hy,eq],by omega⟩)) _ rfl
   ·have c2:y=lo:=by
     cases e:(y == lo) with
     | true=>exact beq_iff_eq.mp e
     | false=>rw [e] at c2;exact absurd rfl c2
    exact rest _ (.inr (.inl (by rw [hy,c2]))) _ rfl
  ·have c:¬ (0:Int)<r:=fun q=>c (decide_eq_true q)
   refine iteF ?_
   exact rest _ (.inl (by omega)) _ rfl
end
section
variable {P:Program}{w:World}{K:PySem.W.Frag}{mg:Str→Option Value}{base:Heap}{A:Adr}
theorem PcsAt.ne {H:Hp}{p d l:Addr}{L:List (Addr × Piece)}{xs:List Int} (R:PcsAt A H p d l L xs):p≠d∧p≠l∧d≠l:=by
 obtain ⟨dx,hp⟩:=R.ob
 obtain ⟨kvs,hd,_⟩:=R.dict
 exact ⟨ne_of hp hd (by intro q;cases q),ne_of hp R.lst (by intro q;cases q),ne_of hd R.lst (by intro q;cases q)⟩
theorem PcsAt.pne {H:Hp}{p d l:Addr}{L:List (Addr × Piece)}{xs:List Int} (R:PcsAt A H p d l L xs) {a:Addr}{C:Addr}{ks:List Str}{vs:List V} (h:Ob H a C ks vs):a≠d∧a≠l:=by
 obtain ⟨dx,hp⟩:=h
 obtain ⟨kvs,hd,_⟩:=R.dict
 exact ⟨ne_of hp hd (by intro q;cases q),ne_of hp R.lst (by intro q;cases q)⟩
theorem PcsAt.perm {H:Hp}{p d l:Addr}{L L':List (Addr × Piece)}{xs:List Int} (R:PcsAt A H p d l L xs) (e:L.Perm L'):PcsAt A H p d l L' xs:=by
 obtain ⟨kvs,hd,h1,h2,h3⟩:=R.dict
 have em:=e.map (·.2)
 refine ⟨R.ob,⟨kvs,hd,h1,by rw [h2,e.length_eq],fun z v=>?_⟩,R.lst,⟨R.pl.srt,by rw [R.pl.len,em.length_eq],fun i z h=>?_,fun q hq=>R.pl.of q (em.mem_iff.mpr hq)⟩,
  em.pairwise R.dis fun {a b} h=>h.symm,em.pairwise R.num fun {a b} h=>h.symm,fun x hx=>R.obs x (e.mem_iff.mpr hx),(e.map (·.1)).nodup_iff.mp R.nd,by rw [← e.length_eq];exact R.few⟩
 ·rw [h3 z v]
  exact ⟨fun ⟨x,hx,q⟩=>⟨x,e.mem_iff.mp hx,q⟩,fun ⟨x,hx,q⟩=>⟨x,e.mem_iff.mpr hx,q⟩⟩
 ·obtain ⟨q,hq,r⟩:=R.pl.to i z h
  exact ⟨q,em.mem_iff.mp hq,r⟩
def sp_Pieces_put (A:Adr):Sp:=fun vs H Q _=>∃ (p d l:Addr) (L:List (Addr × Piece)) (xs:List Int) (a:Addr) (q:Piece),vs=[.ref p,.ref a]∧PcsAt A H p d l L xs∧Ob H a A.c_Piece K_Piece (pieceV q) ∧
 a∉L.map (·.1)∧(∀ x∈L.map (·.2),Apart q x∧q.number≠x.number)∧L.length<65536 ∧
 ∀ (xs':List Int) (H':Hp),PcsAt A H' p d l ((a,q)::L) xs'→(∀ x,x≠d→x≠l→H' x=H x)→Q .non H'
theorem sc_Pieces_put:FnScope ["self","piece"] ["self","piece"] (defScope s_Pieces_put):=⟨rfl,rfl,rfl,by decide +kernel,rfl,by decide +kernel,by decide +kernel⟩
theorem ok_Pieces_put (T:Txt K mg A):FnOk P w K mg base CX0 2 A.f_Pieces_put A.d_Pieces_put ["self","piece"] (sp_Pieces_put A):=by
 refine (T.m_Pieces_put.fn).ok sc_Pieces_put (fun vs H Q E h=>?_) (fun cdv AA outer s H vs Q E hr h=>?_)
 ·obtain ⟨p,d,l,L,xs,a,q,rfl,_⟩:=h
  rfl
 ·obtain ⟨p,d,l,L,xs,a,q,rfl,R,ha,nal,hap,hz,k⟩:=h
  refine ⟨_,(pss_cons (ps_expr (pe_bm PySem.F.plainAttrs_list PySem.F.slot_list_insert PySem.F.type_list_insert mt_insert (pe_fld (pv 0) rfl) (pa_cons (pe_meth (pv 0) T.cl_Pieces T.m_Pieces_rank.me (ok_Pieces_rank T) (hr.mono (by decide)) T.m_Pieces_rank.bi .nil pass0 (pa_cons (pe_fld (pv 1) rfl) pa_nil)) (pa_cons (pe_fld (pv 1) rfl) pa_nil))))
   (pss_one (ps_dput (hu_of hr) (pe_fld (pv 0) rfl) (pe_fld (pv 1) rfl) (pv 1) rfl))),?_⟩
  obtain ⟨kvs,hd,hn,hl,hv⟩:=R.dict
  obtain ⟨npd,npl,ndl⟩:=R.ne
  obtain ⟨nad,nal'⟩:=R.pne ha
  have hsl:=PySem.sizeLine_eq
  have hxl:=R.pl.len
  rw [List.length_map] at hxl
  refine ⟨_,rfl,rd_fld T.fd_Pieces_places R.ob rfl ⟨.inl ⟨rfl,_,SqL.of R.lst⟩,_,rfl,rd_meth R.ob (by decide +kernel) ⟨_,rfl,rd_fld T.fd_Piece_place ha rfl ⟨p,d,l,_,xs,rfl,R.ob,R.lst,R.pl.srt,fun r hr'=>?_⟩⟩⟩⟩
  refine ⟨_,rfl,rd_fld T.fd_Piece_place ha rfl ⟨l,_,_,_,r,rfl,rfl,R.lst,rfl,by rw [List.length_map];exact hr'.le,by rw [List.length_map];omega,?_⟩⟩
  have hne:∀ x∈L.map (·.2),x.place≠q.place:=fun x hx=>by
   have:=(hap x hx).1
   unfold Apart at this
   omega
  have hvn:valV kvs (Sum.inl (q.place:Int):Key)=none:=by
   cases e:valV kvs (Sum.inl (q.place:Int):Key) with
   | none=>rfl
   | some v =>
    obtain ⟨x,hx,ex,_⟩:=(hv _ _).mp e
    exact absurd (by omega) (hne x.2 (List.mem_map.mpr ⟨x,hx,rfl⟩))
  refine ⟨_,rfl,_,rfl,rd_fld T.fd_Pieces_by_place (R.ob.upd npl) rfl ⟨_,rfl,rd_fld T.fd_Piece_place (ha.upd nal') rfl ⟨d,_,rfl,DPut.k (k:=Sum.inl (q.place:Int)) (by rw [upd_ne ndl];exact hd) (by omega),?_⟩⟩⟩
  refine k (xs.take r++(q.place:Int)::xs.drop r) _ ⟨(R.ob.upd npl).upd npd,⟨_,upd_same,nd_putK _ hn hvn,?_,fun z v=>?_⟩,?_,places_insert R.pl hr' hne,?_,?_,fun x hx=>?_,?_,by rw [List.length_cons];omega⟩ fun x h1 h2=>?_
  ·rw [putK_new _ hvn,List.length_append,hl];rfl
  ·rw [valV_put]
   constructor
   ·intro h
    by_cases e:(Sum.inl z:Key)=Sum.inl (q.place:Int)
    ·rw [if_pos e] at h
     cases h
     exact ⟨(a,q),List.mem_cons_self,(Sum.inl.inj e).symm,rfl⟩
    ·rw [if_neg e] at h
     obtain ⟨x,hx,h⟩:=(hv z v).mp h
     exact ⟨x,List.mem_cons_of_mem _ hx,h⟩
   ·rintro ⟨x,hx,ez,ev⟩
    rcases List.mem_cons.mp hx with rfl | hx
    ·rw [if_pos (by rw [← ez]),ev]
    ·have hnx:=hne x.2 (List.mem_map.mpr ⟨x,hx,rfl⟩)
     rw [if_neg fun e=>hnx (by have:=Sum.inl.inj e;omega)]
     exact (hv z v).mpr ⟨x,hx,ez,ev⟩
  ·rw [upd_ne ndl.symm,upd_same,List.map_append,List.map_cons,List.map_take,List.map_drop]
  ·exact List.pairwise_cons.mpr ⟨fun x hx=>(hap x hx).1,R.dis⟩
  ·exact List.pairwise_cons.mpr ⟨fun x hx=>(hap x hx).2,R.num⟩
  ·rcases List.mem_cons.mp hx with rfl | hx
   ·exact (ha.upd nal').upd nad
   ·obtain ⟨n1,n2⟩:=R.pne (R.obs x hx)
    exact ((R.obs x hx).upd n2).upd n1
  ·exact List.nodup_cons.mpr ⟨nal,R.nd⟩
  ·rw [upd_ne h1,upd_ne h2]
def sp_Pieces_take (A:Adr):Sp:=fun vs H Q _=>∃ (p d l:Addr) (L:List (Addr × Piece)) (xs:List Int) (a:Addr) (q:Piece),vs=[.ref p,.int q.place]∧PcsAt A H p d l L xs∧(a,q)∈L ∧
 ∀ (xs':List Int) (H':Hp),PcsAt A H' p d l (L.filter fun x=>x.2.number != q.number) xs'→(∀ x,x≠d→x≠l→H' x=H x)→Q (.ref a) H'
theorem sc_Pieces_take:FnScope ["self","place"] ["self","place"] (defScope s_Pieces_take):=⟨rfl,rfl,rfl,by decide +kernel,rfl,by decide +kernel,by decide +kernel⟩
theorem ok_Pieces_take (T:Txt K mg A):FnOk P w K mg base CX0 2 A.f_Pieces_take A.d_Pieces_take ["self","place"] (sp_Pieces_take A):=by
 refine (T.m_Pieces_take.fn).ok sc_Pieces_take (fun vs H Q E h=>?_) (fun cdv AA outer s H vs Q E hr h=>?_)
 ·obtain ⟨p,d,l,L,xs,a,q,rfl,_⟩:=h
  rfl
 ·obtain ⟨p,d,l,L,xs,a,q,rfl,R,ha,k⟩:=h
  refine ⟨_,(pss_cons (ps_expr (pe_bm PySem.F.plainAttrs_list PySem.F.slot_list_pop PySem.F.type_list_pop mt_popAt (pe_fld (pv 0) rfl) (pa_cons (pe_meth (pv 0) T.cl_Pieces T.m_Pieces_rank.me (ok_Pieces_rank T) (hr.mono (by decide)) T.m_Pieces_rank.bi .nil pass0 (pa_cons (pv 1) pa_nil)) pa_nil)))
   (pss_one (ps_ret (pe_dpop1 (pe_fld (pv 0) rfl) (pv 1) ⟨rfl,rfl,rfl,rfl⟩)))),?_⟩
  obtain ⟨kvs,hd,hn,hl,hv⟩:=R.dict
  obtain ⟨npd,npl,ndl⟩:=R.ne
  have hxl:=R.pl.len
  rw [List.length_map] at hxl
  have hq:q∈L.map (·.2):=List.mem_map.mpr ⟨_,ha,rfl⟩
  refine ⟨_,rfl,rd_fld T.fd_Pieces_places R.ob rfl ⟨.inl ⟨rfl,_,SqL.of R.lst⟩,_,rfl,rd_meth R.ob (by decide +kernel) ⟨_,rfl,p,d,l,_,xs,rfl,R.ob,R.lst,R.pl.srt,fun r hr'=>?_⟩⟩⟩
  obtain ⟨i,hi⟩:=R.pl.of q hq
  have hxr:=rank_at R.pl.srt hr' hi
  have hrl:=(List.getElem?_eq_some_iff.mp hxr).1
  have hsz:=R.few
  refine ⟨l,_,_,r,.int q.place,rfl,rfl,R.lst,by omega,by omega,?_,by rw [List.getElem?_map,hxr];rfl,?_⟩
  ·rw [List.length_map];exact seqIndex_of (by omega) (by omega)
  have hvs:valV kvs (Sum.inl (q.place:Int):Key)=some (.ref a):=(hv _ _).mpr ⟨_,ha,rfl,rfl⟩
  refine ⟨_,rfl,rd_fld T.fd_Pieces_by_place (R.ob.upd npl) rfl ⟨d,rfl,.inl ⟨kvs,.inl (by rw [upd_ne ndl];exact hd)⟩,_,rfl,kvs,Sum.inl (q.place:Int),.ref a,by rw [upd_ne ndl];exact hd,rfl,hvs,?_⟩⟩
  have hmf:∀ x,x∈L.filter (fun x=>x.2.number != q.number)↔x∈L∧x.2.number≠q.number:=fun x=>by rw [List.mem_filter,bne_iff_ne]
  have hfm:(L.filter fun x=>x.2.number != q.number).map (·.2)=(L.map (·.2)).filter fun x=>x.number != q.number:=by rw [List.filter_map];rfl
  refine k (xs.eraseIdx r) _ ⟨(R.ob.upd npl).upd npd,⟨_,upd_same,nd_dropK hn,?_,fun z v=>?_⟩,?_,by rw [hfm];exact places_erase R.pl R.dis R.num hq hxr,?_,?_,fun x hx=>?_,?_,Nat.le_trans (List.length_filter_le _ _) R.few⟩ fun x h1 h2=>?_
  ·have e1:=dropK_len hn (valV_in hvs)
   have e2:=filter_one (f:=Piece.number) R.num hq
   rw [← hfm,List.length_map,List.length_map] at e2
   omega
  ·rw [valV_dropK]
   constructor
   ·intro h
    by_cases e:(Sum.inl z:Key)=Sum.inl (q.place:Int)
    ·rw [if_pos e] at h;cases h
    ·rw [if_neg e] at h
     obtain ⟨x,hx,ez,ev⟩:=(hv z v).mp h
     refine ⟨x,(hmf x).mpr ⟨hx,fun en=>e ?_⟩,ez,ev⟩
     have:=pw_inj (f:=Piece.number) R.num (List.mem_map.mpr ⟨x,hx,rfl⟩) hq en
     rw [← ez,this]
   ·rintro ⟨x,hx,ez,ev⟩
    obtain ⟨hx,en⟩:=(hmf x).mp hx
    rw [if_neg fun e=>?_]
    ·exact (hv z v).mpr ⟨x,hx,ez,ev⟩
    ·have:=dis_place R.dis (List.mem_map.mpr ⟨x,hx,rfl⟩) hq (by have:=Sum.inl.inj e;omega)
     exact en (by rw [this])
  ·rw [upd_ne ndl.symm,upd_same,map_eraseIdx]
  ·rw [hfm];exact R.dis.sublist List.filter_sublist
  ·rw [hfm];exact R.num.sublist List.filter_sublist
  ·obtain ⟨hx,en⟩:=(hmf x).mp hx
   obtain ⟨n1,n2⟩:=R.pne (R.obs x hx)
   exact ((R.obs x hx).upd n2).upd n1
  ·exact R.nd.sublist (List.filter_sublist.map _)
  ·rw [upd_ne h1,upd_ne h2]
end
end Bk
namespace Bk
open Sh28
abbrev ab (s:State) (k:Nat):Nat:=(nodeAt s k).above
structure Wf (s:State):Prop where
 pos:0<s.nodes.length
 few:s.nodes.length≤4096
 root:ab s 0=0
 lt:∀ k,0<k→k<s.nodes.length→ab s k<k
 deep:∀ k,0<k→k<s.nodes.length→depthOf s (ab s k)<64
 at_:s.at_<s.nodes.length
 who:∀ k,k<s.nodes.length→(nodeAt s k).who<65536
 uni:∀ k,0<k→k<s.nodes.length→child s (ab s k) (nodeAt s k).who=some k
section
variable {s:State}
theorem wayUp_zero (f:Nat):wayUp s f 0=[]:=by cases f<;>simp [wayUp]
theorem wayUp_len (f k:Nat):(wayUp s f k).length≤f:=by
 induction f generalizing k with
 | zero=>simp [wayUp]
 | succ f ih =>
  unfold wayUp
  split
  ·simp
  ·rw [List.length_cons];exact Nat.succ_le_succ (ih _)
theorem depth_zero:depthOf s 0=0:=by unfold depthOf;rw [wayUp_zero];rfl
theorem wayUp_fuel' {f k:Nat} (h:(wayUp s (f+1) k).length≤f):wayUp s f k=wayUp s (f+1) k:=by
 induction f generalizing k with
 | zero =>
  unfold wayUp at h ⊢
  by_cases e:k=0
  ·simp [e]
  ·rw [if_neg e] at h
   simp at h
 | succ f ih =>
  unfold wayUp at h ⊢
  by_cases e:k=0
  ·rw [if_pos e,if_pos e]
  ·rw [if_neg e] at h ⊢
   rw [if_neg e]
   rw [List.length_cons] at h
   rw [ih (by omega)]
theorem wayUp_step (W:Wf s) {k:Nat} (h0:0<k) (hk:k<s.nodes.length):wayUp s 64 k=(nodeAt s k).who::wayUp s 64 (ab s k):=by
 have h:=W.deep k h0 hk
 unfold depthOf at h
 rw [show DEEP=63+1 from rfl] at h
 have e:wayUp s 63 (ab s k)=wayUp s 64 (ab s k):=wayUp_fuel' (by omega)
 show wayUp s (63+1) k=_
 rw [← e]
 rw [wayUp,if_neg (by omega)]
theorem depth_step (W:Wf s) {k:Nat} (h0:0<k) (hk:k<s.nodes.length):depthOf s k=depthOf s (ab s k)+1:=by
 unfold depthOf
 rw [show DEEP=64 from rfl,wayUp_step W h0 hk,List.length_cons]
theorem depth_le (k:Nat):depthOf s k≤64:=wayUp_len 64 k
theorem depth_pos (W:Wf s) {k:Nat} (hk:k<s.nodes.length):depthOf s k=0↔k=0:=by
 constructor
 ·intro h
  by_cases e:k=0
  ·exact e
  ·have:=depth_step W (by omega:0<k) hk
   omega
 ·rintro rfl;exact depth_zero
theorem ab_lt (W:Wf s) {k:Nat} (hk:k<s.nodes.length):ab s k<s.nodes.length:=by
 by_cases e:k=0
 ·rw [e,W.root];exact W.pos
 ·have:=W.lt k (by omega) hk;omega
theorem up_lt (W:Wf s):∀ (n:Nat) {k:Nat},k<s.nodes.length→up s n k<s.nodes.length
 | 0,_,h=>h
 | n+1,k,h=>up_lt W n (ab_lt W h)
theorem up_succ:∀ (n k:Nat),up s (n+1) k=ab s (up s n k)
 | 0,k=>rfl
 | n+1,k=>up_succ n (ab s k)
theorem depth_up (W:Wf s):∀ (n:Nat) {k:Nat},k<s.nodes.length→n≤depthOf s k→depthOf s (up s n k)=depthOf s k - n
 | 0,_,_,_=>rfl
 | n+1,k,h,hn=>by
  have h0:0<k:=Nat.pos_of_ne_zero fun e=>by subst e;rw [depth_zero] at hn;omega
  have hs:=depth_step W h0 h
  show depthOf s (up s n (ab s k))=_
  rw [depth_up W n (ab_lt W h) (by omega)]
  omega
def chain (s:State) (k:Nat):List Nat:=(List.range (depthOf s k+1)).map fun i=>up s i k
theorem chain_len (k:Nat):(chain s k).length=depthOf s k+1:=by simp [chain]
theorem mem_chain (W:Wf s) {j k:Nat} (hj:j<s.nodes.length) (hk:k<s.nodes.length):j∈chain s k↔under s j k=true:=by
 unfold chain under
 rw [List.mem_map,Bool.and_eq_true,decide_eq_true_eq,beq_iff_eq]
 constructor
 ·rintro ⟨i,hi,rfl⟩
  rw [List.mem_range] at hi
  have hd:=depth_up W i hk (by omega)
  refine ⟨by omega,?_⟩
  rw [hd]
  congr 1
  omega
 ·rintro ⟨h1,h2⟩
  exact ⟨depthOf s k - depthOf s j,by rw [List.mem_range];omega,h2⟩
theorem chain_nodup (W:Wf s) {k:Nat} (hk:k<s.nodes.length):(chain s k).Nodup:=by
 unfold chain
 rw [List.nodup_iff_pairwise_ne,List.pairwise_map]
 refine List.Pairwise.imp_of_mem ?_ List.nodup_range
 intro a b ha hb hne e
 rw [List.mem_range] at ha hb
 have h1:=depth_up W a hk (by omega)
 have h2:=depth_up W b hk (by omega)
 rw [e] at h1
 exact hne (by omega)
theorem chain_lt (W:Wf s) {j k:Nat} (hk:k<s.nodes.length) (h:j∈chain s k):j<s.nodes.length:=by
 unfold chain at h
 obtain ⟨i,_,rfl⟩:=List.mem_map.mp h
 exact up_lt W i hk
theorem wayUp_chain (W:Wf s) {k:Nat} (hk:k<s.nodes.length):wayUp s 64 k=(List.range (depthOf s k)).map fun i=>(nodeAt s (up s i k)).who:=by
 induction hd:depthOf s k generalizing k with
 | zero =>
  have:=(depth_pos W hk).mp hd
  subst this
  rw [wayUp_zero];rfl
 | succ d ih =>
  have h0:0<k:=Nat.pos_of_ne_zero fun e=>by subst e;rw [depth_zero] at hd;omega
  have hs:=depth_step W h0 hk
  rw [wayUp_step W h0 hk,ih (ab_lt W hk) (by omega),List.range_succ_eq_map,List.map_cons,List.map_map]
  rfl
end
def Shape (s t:State):Prop:=t.nodes.map (fun n=>(n.above,n.who))=s.nodes.map fun n=>(n.above,n.who)
section
variable {s t:State}
theorem Shape.len (h:Shape s t):t.nodes.length=s.nodes.length:=by
 have:=congrArg List.length h
 simpa using this
theorem Shape.at (h:Shape s t) (k:Nat):(nodeAt t k).above=(nodeAt s k).above∧(nodeAt t k).who=(nodeAt s k).who:=by
 have e:=congrArg (·[k]?) h
 simp only [List.getElem?_map] at e
 unfold nodeAt
 rw [List.getD_eq_getElem?_getD,List.getD_eq_getElem?_getD]
 cases e1:t.nodes[k]? with
 | none =>
  cases e2:s.nodes[k]? with
  | none=>exact ⟨rfl,rfl⟩
  | some n=>rw [e1,e2] at e;cases e
 | some m =>
  cases e2:s.nodes[k]? with
  | none=>rw [e1,e2] at e;cases e
  | some n =>
   rw [e1,e2] at e
   have e:=Option.some.inj e
   exact ⟨congrArg (·.1) e,congrArg (·.2) e⟩
theorem Shape.wayUp (h:Shape s t):∀ f k,wayUp t f k=wayUp s f k
 | 0,_=>rfl
 | f+1,k=>by
  unfold Sh28.wayUp
  rw [(h.at k).1,(h.at k).2,Shape.wayUp h f]
theorem Shape.depth (h:Shape s t) (k:Nat):depthOf t k=depthOf s k:=by unfold depthOf;rw [h.wayUp]
theorem Shape.up (h:Shape s t):∀ n k,up t n k=up s n k
 | 0,_=>rfl
 | n+1,k=>by
  unfold Sh28.up
  rw [(h.at k).1,Shape.up h n]
theorem Shape.under (h:Shape s t) (k j:Nat):under t k j=under s k j:=by unfold Sh28.under;rw [h.depth,h.depth,h.up]
theorem find_zipIdx {α β:Type}{f:α→β}{q:β × Nat→Bool}:∀ (l:List α) (i:Nat),((l.zipIdx i).find? fun x=>q (f x.1,x.2)).map (fun x=>x.2)=(((l.map f).zipIdx i).find? q).map fun x=>x.2
 | [],_=>rfl
 | a::l,i=>by
  rw [List.zipIdx_cons,List.map_cons,List.zipIdx_cons,List.find?_cons,List.find?_cons]
  cases q (f a,i) with
  | true=>rfl
  | false=>exact find_zipIdx l (i+1)
theorem child_shape (a w:Nat):child s a w=((s.nodes.map fun n=>(n.above,n.who)).zipIdx.find? fun x=>x.2 != 0 && (x.1.1 == a && x.1.2 == w)).map fun x=>x.2:=by
 unfold child
 exact find_zipIdx (f:=fun n:Node=>(n.above,n.who)) (q:=fun x=>x.2 != 0 && (x.1.1 == a && x.1.2 == w)) s.nodes 0
theorem Shape.child (h:Shape s t) (a w:Nat):child t a w=child s a w:=by
 rw [child_shape,child_shape,show t.nodes.map _=s.nodes.map _ from h]
theorem Shape.wf (h:Shape s t) (ha:t.at_<t.nodes.length) (W:Wf s):Wf t where
 pos:=by rw [h.len];exact W.pos
 few:=by rw [h.len];exact W.few
 root:=by show (nodeAt t 0).above=0;rw [(h.at 0).1];exact W.root
 lt:=fun k h0 hk=>by show (nodeAt t k).above<k;rw [(h.at k).1];exact W.lt k h0 (by rw [← h.len];exact hk)
 deep:=fun k h0 hk=>by show depthOf t (nodeAt t k).above<64;rw [(h.at k).1,h.depth];exact W.deep k h0 (by rw [← h.len];exact hk)
 at_:=ha
 who:=fun k hk=>by rw [(h.at k).2];exact W.who k (by rw [← h.len];exact hk)
 uni:=fun k h0 hk=>by show Sh28.child t (nodeAt t k).above _=_;rw [(h.at k).1,(h.at k).2,h.child];exact W.uni k h0 (by rw [← h.len];exact hk)
theorem child_some {a w k:Nat} (h:child s a w=some k):0<k∧k<s.nodes.length∧(nodeAt s k).above=a∧(nodeAt s k).who=w:=by
 unfold child at h
 cases e:s.nodes.zipIdx.find? fun x=>x.2 != 0 && (x.1.above == a && x.1.who == w) with
 | none=>rw [e] at h;cases h
 | some x =>
  rw [e] at h
  have hk:x.2=k:=Option.some.inj h
  have h1:=List.mem_of_find?_eq_some e
  have h2:=List.find?_some e
  simp only [Bool.and_eq_true,bne_iff_ne,beq_iff_eq] at h2
  obtain ⟨i,hi⟩:=List.mem_iff_getElem?.mp h1
  rw [List.getElem?_zipIdx] at hi
  cases e3:s.nodes[i]? with
  | none=>rw [e3] at hi;cases hi
  | some n =>
   rw [e3] at hi
   have hx:(n,0+i)=x:=Option.some.inj hi
   subst hx
   have hk:0+i=k:=hk
   have hik:i=k:=by omega
   subst hik
   have hn:nodeAt s i=n:=by unfold nodeAt;rw [List.getD_eq_getElem?_getD,e3];rfl
   rw [hn]
   have h21:0+i≠0:=h2.1
   exact ⟨by omega,(List.getElem?_eq_some_iff.mp e3).1,h2.2.1,h2.2.2⟩
end
def grown (s:State) (n:Node):State:={ s with nodes:=s.nodes++[n] }
section
variable {s:State}{n:Node}
theorem grown_at {k:Nat} (h:k<s.nodes.length):nodeAt (grown s n) k=nodeAt s k:=by
 unfold nodeAt grown
 rw [List.getD_eq_getElem?_getD,List.getD_eq_getElem?_getD]
 show ((s.nodes++[n])[k]?).getD _=_
 rw [List.getElem?_append_left h]
theorem grown_new:nodeAt (grown s n) s.nodes.length=n:=by
 unfold nodeAt grown
 rw [List.getD_eq_getElem?_getD]
 show ((s.nodes++[n])[s.nodes.length]?).getD _=_
 rw [List.getElem?_append_right (Nat.le_refl _),Nat.sub_self]
 rfl
theorem grown_wayUp (W:Wf s):∀ f {k},k<s.nodes.length→wayUp (grown s n) f k=wayUp s f k
 | 0,_,_=>rfl
 | f+1,k,h=>by
  unfold wayUp
  rw [grown_at h,grown_wayUp W f (ab_lt W h)]
theorem grown_depth (W:Wf s) {k:Nat} (h:k<s.nodes.length):depthOf (grown s n) k=depthOf s k:=by unfold depthOf;rw [grown_wayUp W _ h]
theorem grown_up (W:Wf s):∀ m {k},k<s.nodes.length→up (grown s n) m k=up s m k
 | 0,_,_=>rfl
 | m+1,k,h=>by
  unfold up
  rw [grown_at h,grown_up W m (ab_lt W h)]
theorem grown_under (W:Wf s) {j k:Nat} (hj:j<s.nodes.length) (hk:k<s.nodes.length):under (grown s n) j k=under s j k:=by
 unfold under
 rw [grown_depth W hj,grown_depth W hk,grown_up W _ hk]
theorem grown_child (W:Wf s) (a w:Nat):child (grown s n) a w=match child s a w with
  | some k=>some k
  | none=>if n.above=a∧n.who=w then some s.nodes.length else none:=by
 unfold child grown
 show ((s.nodes++[n]).zipIdx.find? _).map _=_
 rw [List.zipIdx_append,List.find?_append]
 cases e:s.nodes.zipIdx.find? fun x=>x.2 != 0 && (x.1.above == a && x.1.who == w) with
 | some x=>rfl
 | none =>
  have hl:=W.pos
  simp only [Option.none_or,Option.map_none,List.zipIdx_cons,List.zipIdx_nil,Nat.zero_add]
  rw [List.find?_cons]
  by_cases h:n.above=a∧n.who=w
  ·rw [if_pos h]
   have:(s.nodes.length != 0 && (n.above == a && n.who == w))=true:=by
    simp only [Bool.and_eq_true,bne_iff_ne,beq_iff_eq]
    exact ⟨by omega,h⟩
   rw [this];rfl
  ·rw [if_neg h]
   have:(s.nodes.length != 0 && (n.above == a && n.who == w))=false:=by
    rw [Bool.eq_false_iff]
    intro z
    simp only [Bool.and_eq_true,bne_iff_ne,beq_iff_eq] at z
    exact h z.2
   rw [this];rfl
theorem grown_wf (W:Wf s) {w at':Nat} (hl:s.nodes.length<4096) (hd:depthOf s s.at_<64) (hw:w<65536) (hc:child s s.at_ w=none) (hat:at'≤s.nodes.length):Wf { grown s ⟨s.at_,w,0,0,0,0,0⟩ with at_:=at' }:=by
 have len:(grown s ⟨s.at_,w,0,0,0,0,0⟩).nodes.length=s.nodes.length+1:=by simp [grown]
 have sh:Shape (grown s ⟨s.at_,w,0,0,0,0,0⟩) { grown s ⟨s.at_,w,0,0,0,0,0⟩ with at_:=at' }:=rfl
 refine sh.wf (by show at'<(grown s _).nodes.length;rw [len];omega) ?_
 refine ⟨by rw [len];omega,by rw [len];omega,?_,fun k h0 hk=>?_,fun k h0 hk=>?_,by rw [len];show s.at_<_;have:=W.at_;omega,fun k hk=>?_,fun k h0 hk=>?_⟩
 ·show (nodeAt _ 0).above=0
  rw [grown_at W.pos];exact W.root
 ·rw [len] at hk
  show (nodeAt _ k).above<k
  by_cases e:k=s.nodes.length
  ·subst e;rw [grown_new];exact W.at_
  ·rw [grown_at (by omega)];exact W.lt k h0 (by omega)
 ·rw [len] at hk
  show depthOf _ (nodeAt _ k).above<64
  by_cases e:k=s.nodes.length
  ·subst e;rw [grown_new,grown_depth W W.at_];exact hd
  ·rw [grown_at (by omega),grown_depth W (ab_lt W (by omega))];exact W.deep k h0 (by omega)
 ·rw [len] at hk
  by_cases e:k=s.nodes.length
  ·subst e;rw [grown_new];exact hw
  ·rw [grown_at (by omega)];exact W.who k (by omega)
 ·rw [len] at hk
  show child _ (nodeAt _ k).above _=_
  by_cases e:k=s.nodes.length
  ·subst e
   rw [grown_new,grown_child W]
   show (match child s s.at_ w with | some k=>some k | none=>_)=_
   rw [hc]
   exact if_pos ⟨rfl,rfl⟩
  ·rw [grown_at (by omega),grown_child W,W.uni k h0 (by omega)]
end
end Bk
namespace Bk
open PySem L2
open Sh28 (State nodeAt depthOf child up under wayUp pathOf findWay begun)
theorem zip_fst:∀ {ks:List Str}{vs:List V},ks.length=vs.length→(ks.zip vs).map (·.1)=ks
 | [],[],_=>rfl
 | [],_::_,h=>by simp at h
 | _::_,[],h=>by simp at h
 | k::ks,v::vs,h=>by rw [List.zip_cons_cons,List.map_cons,zip_fst (by simpa using h)]
theorem ob_ne {H:Hp}{p q C C':Addr}{ks ks':List Str}{vs vs':List V} (h:Ob H p C ks vs) (h':Ob H q C' ks' vs') (l:ks.length=vs.length) (l':ks'.length=vs'.length) (n:ks≠ks'):p≠q:=by
 obtain ⟨dx,h⟩:=h
 obtain ⟨dx',h'⟩:=h'
 refine ne_of h h' fun e=>n ?_
 injection e with _ _ e
 rw [← zip_fst l,e,zip_fst l']
theorem ob_nl {H:Hp}{p q C:Addr}{ks:List Str}{vs xs:List V} (h:Ob H p C ks vs) (h':H q=some (.lst xs)):p≠q:=by
 obtain ⟨dx,h⟩:=h
 exact ne_of h h' fun e=>by cases e
theorem ob_nT {H:Hp}{p q C:Addr}{ks:List Str}{vs:List V}{kvs:List (List Key × V)} (h:Ob H p C ks vs) (h':H q=some (.dT kvs)):p≠q:=by
 obtain ⟨dx,h⟩:=h
 exact ne_of h h' fun e=>by cases e
theorem ob_some {H:Hp}{p C:Addr}{ks:List Str}{vs:List V} (h:Ob H p C ks vs):H p≠none:=by
 obtain ⟨dx,h⟩:=h
 rw [h];simp
theorem au_fld {K:PySem.W.Frag}{C p:Addr}{ks:List Str}{f:Str}{i:Nat}{vs:List V}{H:Hp}{nx:Hp→Prop}{tv:VK→Prop}{j m:Int} (T:Fd K C ks f i) (h:Ob H p C ks vs) (hl:ks.length=vs.length) (hv:vs[i]?=some (.int m))
  (ht:∀ R:VK,R (.int j) H→tv R) (q:∀ H',Ob H' p C ks (vs.set i (.int (m+j)))→(∀ b,b≠p→H' b=H b)→nx H') :
  ∃ a C dx fs v,V.ref p=.ref a∧H a=some (.ins C dx fs)∧Cls K C∧NoAttr K C f∧fs.lookup f=some v ∧
   tv (fun y H2=>rAdd v y H2 fun z H3=>∃ dx' fs',H3 a=some (.ins C dx' fs')∧fs'.length<1000∧nx (upd H3 a (.ins C dx' (putF f z fs')))):=by
 obtain ⟨dx,hh⟩:=h
 refine ⟨p,C,dx,_,_,rfl,hh,T.cl,T.no,fz_get T.ix hv,ht _ ⟨m,j,rfl,rfl,dx,_,hh,by rw [zip_len hl];exact T.few,q _ ⟨dx,?_⟩ fun b hb=>upd_ne hb⟩⟩
 rw [upd_same,fz_put _ T.ix hl]
structure Nm where
 mp:Int
 mb:Int
 lp:Int
 lb:Int
 pk:Int
 ap:Int
 al:Int
 am:Int
def zeroN:Nm:=⟨0,0,0,0,0,0,0,0⟩
def ndV (s:State) (k:Nat) (n:Nm):List V:=[.int (nodeAt s k).above,.int (nodeAt s k).who,.int (depthOf s k),.int n.mp,.int n.mb,.int n.lp,.int n.lb,.int n.pk,.int n.ap,.int n.al,.int n.am]
structure WaysAt (A:Adr) (H:Hp) (p nl sd:Addr) (as:List Addr) (s:State) (f:Nat→Nm):Prop where
 ob:Ob H p A.c_Ways K_Ways [.ref nl,.ref sd,.int s.at_]
 lst:H nl=some (.lst (as.map V.ref))
 len:as.length=s.nodes.length
 obs:∀ (k:Nat) (a:Addr),as[k]?=some a→Ob H a A.c_Node K_Node (ndV s k (f k))
 dict:∃ kvs,H sd=some (.dT kvs)∧kvs.length<s.nodes.length∧∀ a w:Nat,valV kvs [Sum.inl (a:Int),Sum.inl (w:Int)]=(child s a w).map fun (k:Nat)=>V.int (k:Int)
 nd:as.Nodup
section
variable {A:Adr}{H H':Hp}{p nl sd:Addr}{as:List Addr}{s:State}{f:Nat→Nm}
theorem WaysAt.get (R:WaysAt A H p nl sd as s f) {k:Nat} (h:k<s.nodes.length):∃ a,as[k]?=some a∧as.getD k 0=a∧Ob H a A.c_Node K_Node (ndV s k (f k)):=by
 have hk:k<as.length:=by rw [R.len];exact h
 exact ⟨as[k],List.getElem?_eq_getElem hk,by simp [hk],R.obs k _ (List.getElem?_eq_getElem hk)⟩
theorem WaysAt.ne (R:WaysAt A H p nl sd as s f) {k:Nat}{a:Addr} (h:as[k]?=some a):a≠p∧a≠nl∧a≠sd:=by
 obtain ⟨kvs,hd,_⟩:=R.dict
 exact ⟨ob_ne (R.obs k a h) R.ob rfl rfl (by decide +kernel),ob_nl (R.obs k a h) R.lst,ob_nT (R.obs k a h) hd⟩
theorem WaysAt.keep (R:WaysAt A H p nl sd as s f) (h1:H' p=H p) (h2:H' nl=H nl) (h3:H' sd=H sd) (h4:∀ (k:Nat) (a:Addr),as[k]?=some a→H' a=H a):WaysAt A H' p nl sd as s f :=
 ⟨R.ob.same h1,by rw [h2];exact R.lst,R.len,fun k a h=>(R.obs k a h).same (h4 k a h),by rw [h3];exact R.dict,R.nd⟩
theorem WaysAt.kept (R:WaysAt A H p nl sd as s f) (k:∀ x,H x≠none→H' x=H x):WaysAt A H' p nl sd as s f:=by
 obtain ⟨kvs,hd,_⟩:=R.dict
 exact R.keep (k p (ob_some R.ob)) (k nl (by rw [R.lst];simp)) (k sd (by rw [hd];simp)) fun j a h=>k a (ob_some (R.obs j a h))
theorem WaysAt.num (R:WaysAt A H p nl sd as s f) {k:Nat}{a:Addr}{n:Nm} (h:as[k]?=some a) (ho:Ob H' a A.c_Node K_Node (ndV s k n)) (hk:∀ b,b≠a→H' b=H b):WaysAt A H' p nl sd as s (fun j=>if j=k then n else f j):=by
 obtain ⟨n1,n2,n3⟩:=R.ne h
 refine ⟨R.ob.same (hk p n1.symm),by rw [hk nl n2.symm];exact R.lst,R.len,fun j b hb=>?_,by rw [hk sd n3.symm];exact R.dict,R.nd⟩
 by_cases e:j=k
 ·subst e
  rw [h] at hb;cases hb
  rw [if_pos rfl];exact ho
 ·rw [if_neg e]
  refine (R.obs j b hb).same (hk b ?_)
  rintro rfl
  exact e (nd_ix R.nd hb h)
theorem WaysAt.eqv {g:Nat→Nm} (R:WaysAt A H p nl sd as s f) (e:∀ j,j<s.nodes.length→f j=g j):WaysAt A H p nl sd as s g :=
 ⟨R.ob,R.lst,R.len,fun k a h=>by rw [← e k (by rw [← R.len];exact (List.getElem?_eq_some_iff.mp h).1)];exact R.obs k a h,R.dict,R.nd⟩
end
section
variable {P:Program}{w:World}{K:PySem.W.Frag}{mg:Str→Option Value}{base:Heap}{A:Adr}
def sp_Node___init__ (A:Adr):Sp:=fun vs H Q _=>∃ (p dx:Addr) (a b c:V),vs=[.ref p,a,b,c]∧H p=some (.ins A.c_Node dx []) ∧
 ∀ H':Hp,Ob H' p A.c_Node K_Node [a,b,c,.int 0,.int 0,.int 0,.int 0,.int 0,.int 0,.int 0,.int 0]→(∀ x,x≠p→H' x=H x)→Q .non H'
theorem sc_Node___init__:FnScope ["self","above","who","depth"] ["self","above","who","depth"] (defScope s_Node___init__):=⟨rfl,rfl,rfl,by decide +kernel,rfl,by decide +kernel,by decide +kernel⟩
theorem ok_Node___init__ (T:Txt K mg A):FnOk P w K mg base CX0 1 A.f_Node___init__ A.d_Node___init__ ["self","above","who","depth"] (sp_Node___init__ A):=by
 refine (T.m_Node___init__.fn).ok sc_Node___init__ (fun vs H Q E h=>?_) (fun cdv AA outer s H vs Q E hr h=>?_)
 ·obtain ⟨p,dx,a,b,c,rfl,_⟩:=h
  rfl
 ·obtain ⟨p,dx,a,b,c,rfl,hp,k⟩:=h
  refine ⟨_,(pss_cons (ps_fld (pv 0) (pv 1) rfl)
   (pss_cons (ps_fld (pv 0) (pv 2) rfl)
   (pss_cons (ps_fld (pv 0) (pv 3) rfl)
   (pss_cons (ps_fld (pv 0) pe_int rfl)
   (pss_cons (ps_fld (pv 0) pe_int rfl)
   (pss_cons (ps_fld (pv 0) pe_int rfl)
   (pss_cons (ps_fld (pv 0) pe_int rfl)
   (pss_cons (ps_fld (pv 0) pe_int rfl)
   (pss_cons (ps_fld (pv 0) pe_int rfl)
   (pss_cons (ps_fld (pv 0) pe_int rfl)
   (pss_one (ps_fld (pv 0) pe_int rfl)))))))))))),?_⟩
  refine ⟨_,rfl,_,rfl,nf_fld (ks:=[]) (vs:=[]) T.fd_Node_above ⟨dx,hp⟩ rfl rfl (by decide +kernel) fun H1 h1 k1=>?_⟩
  refine ⟨_,rfl,_,rfl,nf_fld T.fd_Node_who h1 rfl rfl (by decide +kernel) fun H2 h2 k2=>?_⟩
  refine ⟨_,rfl,_,rfl,nf_fld T.fd_Node_depth h2 rfl rfl (by decide +kernel) fun H3 h3 k3=>?_⟩
  refine ⟨_,rfl,nf_fld T.fd_Node_made_pieces h3 rfl rfl (by decide +kernel) fun H4 h4 k4=>?_⟩
  refine ⟨_,rfl,nf_fld T.fd_Node_made_bytes h4 rfl rfl (by decide +kernel) fun H5 h5 k5=>?_⟩
  refine ⟨_,rfl,nf_fld T.fd_Node_live_pieces h5 rfl rfl (by decide +kernel) fun H6 h6 k6=>?_⟩
  refine ⟨_,rfl,nf_fld T.fd_Node_live_bytes h6 rfl rfl (by decide +kernel) fun H7 h7 k7=>?_⟩
  refine ⟨_,rfl,nf_fld T.fd_Node_peak_bytes h7 rfl rfl (by decide +kernel) fun H8 h8 k8=>?_⟩
  refine ⟨_,rfl,nf_fld T.fd_Node_all_live_pieces h8 rfl rfl (by decide +kernel) fun H9 h9 k9=>?_⟩
  refine ⟨_,rfl,nf_fld T.fd_Node_all_live_bytes h9 rfl rfl (by decide +kernel) fun HA hA kA=>?_⟩
  refine ⟨_,rfl,nf_fld T.fd_Node_all_made_bytes hA rfl rfl (by decide +kernel) fun HB hB kB=>?_⟩
  exact k HB hB fun x hx=>by rw [kB x hx,kA x hx,k9 x hx,k8 x hx,k7 x hx,k6 x hx,k5 x hx,k4 x hx,k3 x hx,k2 x hx,k1 x hx]
def sp_Ways___init__ (A:Adr):Sp:=fun vs H Q _=>∃ (p dx:Addr),vs=[.ref p]∧H p=some (.ins A.c_Ways dx []) ∧
 ∀ (nl sd a:Addr) (H':Hp),H nl=none→H sd=none→H a=none→WaysAt A H' p nl sd [a] begun (fun _=>zeroN)→(∀ x,H x≠none→x≠p→H' x=H x)→Q .non H'
theorem sc_Ways___init__:FnScope ["self"] ["self"] (defScope s_Ways___init__):=⟨rfl,rfl,rfl,by decide +kernel,rfl,by decide +kernel,by decide +kernel⟩
theorem ok_Ways___init__ (T:Txt K mg A):FnOk P w K mg base CX0 3 A.f_Ways___init__ A.d_Ways___init__ ["self"] (sp_Ways___init__ A):=by
 refine (T.m_Ways___init__.fn).ok sc_Ways___init__ (fun vs H Q E h=>?_) (fun cdv AA outer s H vs Q E hr h=>?_)
 ·obtain ⟨p,dx,rfl,_⟩:=h
  rfl
 ·obtain ⟨p,dx,rfl,hp,k⟩:=h
  refine ⟨_,(pss_cons (ps_fld (pv 0) (pe_lst (pa_cons (pe_make T.mk_Node (ok_Node___init__ T) (hr.mono (by decide)) (by rfl) T.mg_Node T.m_Node___init__.bi .nil pass0 (pa_cons pe_int (pa_cons pe_int (pa_cons pe_int pa_nil)))) pa_nil)) rfl)
   (pss_cons (ps_fld (pv 0) pe_dnewT rfl)
   (pss_one (ps_fld (pv 0) pe_int rfl)))),?_⟩
  intro a da na nda nea
  have npa:p≠a:=ne_of_none hp na
  have npd:p≠da:=ne_of_none hp nda
  refine ⟨a,da,_,_,_,rfl,upd_same,fun H1 h1 k1=>⟨rfl,by show 1≤sizeLine;decide,fun nl hnl=>?_⟩⟩
  have e1:∀ x,H x≠none→H1 x=H x:=fun x hx=>by
   have n1:x≠a:=fun e=>hx (by rw [e];exact na)
   have n2:x≠da:=fun e=>hx (by rw [e];exact nda)
   rw [k1 x n1,upd_ne n1,upd_ne n2]
  have hp1:H1 p=some (.ins A.c_Ways dx []):=by rw [e1 p (by rw [hp];simp)];exact hp
  have nan:a≠nl:=ne_of_none h1.choose_spec hnl
  have npn:p≠nl:=ne_of_none hp1 hnl
  have hnl0:H nl=none:=by
   cases e:H nl with
   | none=>rfl
   | some o=>rw [e1 nl (by rw [e];simp),e] at hnl;cases hnl
  refine ⟨_,rfl,nf_fld (ks:=[]) (vs:=[]) T.fd_Ways_nodes ⟨dx,by rw [upd_ne npn];exact hp1⟩ rfl rfl (by decide +kernel) fun H2 h2 k2=>?_⟩
  intro sd hsd
  have nps:p≠sd:=ne_of_none h2.choose_spec hsd
  have h2a:Ob H2 a A.c_Node K_Node _:=h1.same (by rw [k2 a npa.symm,upd_ne nan])
  have nas:a≠sd:=ne_of_none h2a.choose_spec hsd
  have h2l:H2 nl=some (.lst [.ref a]):=by rw [k2 nl npn.symm,upd_same]
  have nls:nl≠sd:=ne_of_none h2l hsd
  have hsd0:H sd=none:=by
   cases e:H sd with
   | none=>rfl
   | some o=>rw [k2 sd nps.symm,upd_ne nls.symm,e1 sd (by rw [e];simp),e] at hsd;cases hsd
  refine ⟨_,rfl,nf_fld T.fd_Ways_steps (Ob.upd h2 nps) rfl rfl (by decide +kernel) fun H3 h3 k3=>?_⟩
  refine ⟨_,rfl,nf_fld T.fd_Ways_here h3 rfl rfl (by decide +kernel) fun H4 h4 k4=>?_⟩
  refine k nl sd a H4 hnl0 hsd0 na ⟨h4,by rw [k4 nl npn.symm,k3 nl npn.symm,upd_ne nls];exact h2l,rfl,fun j b hb=>?_,⟨[],by rw [k4 sd nps.symm,k3 sd nps.symm,upd_same],by decide,fun x y=>?_⟩,by simp⟩ fun x hx h1x=>?_
  ·cases j with
   | succ j=>simp at hb
   | zero =>
    have hb:a=b:=by simpa using hb
    subst hb
    exact h2a.same (by rw [k4 a npa.symm,k3 a npa.symm,upd_ne nas])
  ·rw [valV_nil];rfl
  ·have n1:x≠nl:=fun e=>hx (by rw [e];exact hnl0)
   have n2:x≠sd:=fun e=>hx (by rw [e];exact hsd0)
   rw [k4 x h1x,k3 x h1x,upd_ne n2,k2 x h1x,upd_ne n1,e1 x hx]
def sp_Ways_has (A:Adr):Sp:=fun vs H Q _=>∃ (p nl sd:Addr) (as:List Addr) (s:State) (f:Nat→Nm) (k:Int),vs=[.ref p,.int k]∧WaysAt A H p nl sd as s f∧Q (.bl (decide (0≤k∧k<s.nodes.length))) H
theorem sc_Ways_has:FnScope ["self","k"] ["self","k"] (defScope s_Ways_has):=⟨rfl,rfl,rfl,by decide +kernel,rfl,by decide +kernel,by decide +kernel⟩
theorem ok_Ways_has (T:Txt K mg A):FnOk P w K mg base CX0 1 A.f_Ways_has A.d_Ways_has ["self","k"] (sp_Ways_has A):=by
 refine (T.m_Ways_has.fn).ok sc_Ways_has (fun vs H Q E h=>?_) (fun cdv AA outer s H vs Q E hr h=>?_)
 ·obtain ⟨p,nl,sd,as,s,f,k,rfl,_⟩:=h
  rfl
 ·obtain ⟨p,nl,sd,as,s,f,z,rfl,R,k⟩:=h
  refine ⟨_,(pss_one (ps_ret (pe_chain op_le op_lt pe_int (pv 1) (pe_callB call_len_seq (by rfl) T.b_len PySem.boot_len (pa_cons (pe_fld (pv 0) rfl) pa_nil))))),?_⟩
  refine ⟨_,rfl,_,_,rfl,rfl,_,rfl,?_⟩
  refine ite2 (fun h1=>?_) (fun h1=>?_)
  ·have h1:0≤z:=of_decide_eq_true h1
   refine ⟨_,rfl,rd_fld T.fd_Ways_nodes R.ob rfl ⟨nl,_,rfl,.inl (SqL.of R.lst),_,_,rfl,rfl,?_⟩⟩
   have e:decide (z<((as.map V.ref).length:Int))=decide (0≤z∧z<(s.nodes.length:Int)):=by rw [List.length_map,R.len];simp [h1]
   show Q (.bl (decide (z<((as.map V.ref).length:Int)))) H
   rw [e];exact k
  ·have h1:¬ 0≤z:=fun q=>h1 (decide_eq_true q)
   have e:false=decide (0≤z∧z<(s.nodes.length:Int)):=by simp [h1]
   show Q (.bl false) H
   rw [e];exact k
def sp_Ways_depth_here (A:Adr):Sp:=fun vs H Q _=>∃ (p nl:Addr) (x:V) (as:List Addr) (i:Nat) (a:Addr) (us:List V) (d:V),vs=[.ref p]∧Ob H p A.c_Ways K_Ways [.ref nl,x,.int i]∧H nl=some (.lst (as.map V.ref))∧as[i]?=some a∧Ob H a A.c_Node K_Node us∧us[2]?=some d∧Q d H
theorem sc_Ways_depth_here:FnScope ["self"] ["self"] (defScope s_Ways_depth_here):=⟨rfl,rfl,rfl,by decide +kernel,rfl,by decide +kernel,by decide +kernel⟩
theorem ok_Ways_depth_here (T:Txt K mg A):FnOk P w K mg base CX0 1 A.f_Ways_depth_here A.d_Ways_depth_here ["self"] (sp_Ways_depth_here A):=by
 refine (T.m_Ways_depth_here.fn).ok sc_Ways_depth_here (fun vs H Q E h=>?_) (fun cdv AA outer s H vs Q E hr h=>?_)
 ·obtain ⟨p,nl,x,as,i,a,us,d,rfl,_⟩:=h
  rfl
 ·obtain ⟨p,nl,x,as,i,a,us,d,rfl,hp,hl,ha,ho,hd,k⟩:=h
  refine ⟨_,(pss_one (ps_ret (pe_fld (pe_ix ix_list (pe_fld (pv 0) rfl) (pe_fld (pv 0) rfl) (fun _ _=>rfl)) rfl))),?_⟩
  refine ⟨_,rfl,rd_fld T.fd_Ways_nodes hp rfl ⟨_,rfl,rd_fld T.fd_Ways_here hp rfl ⟨nl,_,_,_,rfl,rfl,SqL.of hl,atI_nat (j:=i) (v:=.ref a) (by rw [List.getElem?_map,ha];rfl),rd_fld T.fd_Node_depth ho hd k⟩⟩⟩
end
section
variable {P:Program}{w:World}{K:PySem.W.Frag}{mg:Str→Option Value}{base:Heap}{A:Adr}
def sp_Ways_enter (A:Adr):Sp:=fun vs H Q _=>∃ (p nl sd:Addr) (as:List Addr) (s:State) (f:Nat→Nm) (w:Nat),vs=[.ref p,.int w]∧WaysAt A H p nl sd as s f∧Wf s∧w<65536 ∧
 (64≤depthOf s s.at_→Q (.int (-6)) H) ∧
 (∀ (k:Nat) (H':Hp),depthOf s s.at_<64→child s s.at_ w=some k→WaysAt A H' p nl sd as { s with at_:=k } f→(∀ x,H x≠none→x≠p→H' x=H x)→Q (.int k) H') ∧
 (∀ H':Hp,depthOf s s.at_<64→child s s.at_ w=none→4096≤s.nodes.length→(∀ x,H x≠none→H' x=H x)→Q (.int (-6)) H') ∧
 (∀ (a:Addr) (H':Hp),depthOf s s.at_<64→child s s.at_ w=none→s.nodes.length<4096→H a=none→WaysAt A H' p nl sd (as++[a]) { s with nodes:=s.nodes++[⟨s.at_,w,0,0,0,0,0⟩],at_:=s.nodes.length } (fun j=>if j=s.nodes.length then zeroN else f j) →
  (∀ x,H x≠none→x≠p→x≠nl→x≠sd→H' x=H x)→Q (.int s.nodes.length) H')
theorem sc_Ways_enter:FnScope ["self","who","step"] ["self","who"] (defScope s_Ways_enter):=⟨rfl,rfl,rfl,by decide +kernel,rfl,by decide +kernel,by decide +kernel⟩
theorem ok_Ways_enter (T:Txt K mg A):FnOk P w K mg base CX0 3 A.f_Ways_enter A.d_Ways_enter ["self","who"] (sp_Ways_enter A):=by
 refine (T.m_Ways_enter.fn).ok sc_Ways_enter (fun vs H Q E h=>?_) (fun cdv AA outer s H vs Q E hr h=>?_)
 ·obtain ⟨p,nl,sd,as,s,f,w,rfl,_⟩:=h
  rfl
 ·obtain ⟨p,nl,sd,as,s,f,w,rfl,R,W,hw,k1,k2,k3,k4⟩:=h
  refine ⟨_,(pss_cons (ps_if (pt_cmpR op_eq (pe_meth0 (pv 0) T.cl_Ways T.m_Ways_depth_here.me (ok_Ways_depth_here T) (hr.mono (by decide)) T.m_Ways_depth_here.bi .nil pass0) (pe_gint T.g_MOST_DEPTH) (nomark _))
    (pss_one (ps_ret (pe_gint T.g_FULL)))
    pss_nil)
   (pss_cons (ps_set (i:=2) sc_Ways_enter.nd rfl (Or.inl rfl) (pe_tup (pa_cons (pe_fld (pv 0) rfl) (pa_cons (pv 1) pa_nil))))
   (pss_cons (ps_if (pt_cmp (pc_dnotin (hu_of hr) (pv 2) (pe_fld (pv 0) rfl)))
    (pss_cons (ps_if (pt_cmpR op_eq (pe_callB call_len_seq (by rfl) T.b_len PySem.boot_len (pa_cons (pe_fld (pv 0) rfl) pa_nil)) (pe_gint T.g_MOST_NODES) (nomark _))
     (pss_one (ps_ret (pe_gint T.g_FULL)))
     pss_nil)
    (pss_cons (ps_dput (hu_of hr) (pe_fld (pv 0) rfl) (pv 2) (pe_callB call_len_seq (by rfl) T.b_len PySem.boot_len (pa_cons (pe_fld (pv 0) rfl) pa_nil)) rfl)
    (pss_one (ps_expr (pe_bm PySem.F.plainAttrs_list PySem.F.slot_list_append PySem.F.type_list_append mt_append (pe_fld (pv 0) rfl) (pa_cons (pe_make T.mk_Node (ok_Node___init__ T) (hr.mono (by decide)) (by rfl) T.mg_Node T.m_Node___init__.bi .nil pass0 (pa_cons (pe_fld (pv 0) rfl) (pa_cons (pv 1) (pa_cons (pe_op op_add (pe_meth0 (pv 0) T.cl_Ways T.m_Ways_depth_here.me (ok_Ways_depth_here T) (hr.mono (by decide)) T.m_Ways_depth_here.bi .nil pass0) pe_int) pa_nil)))) pa_nil))))))
    pss_nil)
   (pss_cons (ps_fld (pv 0) (pe_dget (hu_of hr) (pe_fld (pv 0) rfl) (pv 2) (fun _ _=>rfl)) rfl)
   (pss_one (ps_ret (pe_fld (pv 0) rfl))))))),?_⟩
  obtain ⟨kvs,hd,hl,hv⟩:=id R.dict
  have nps:p≠sd:=ob_nT R.ob hd
  have npl:p≠nl:=ob_nl R.ob R.lst
  have nls:nl≠sd:=ne_of R.lst hd fun e=>by cases e
  have few:=W.few
  have hsl:=PySem.sizeLine_eq
  obtain ⟨c0,hc0,_,hoc⟩:=R.get W.at_
  refine ⟨_,rfl,rd_meth R.ob (by decide +kernel) ⟨p,nl,_,as,s.at_,c0,_,_,rfl,R.ob,R.lst,hc0,hoc,rfl,rfl,_,rfl,?_⟩⟩
  rw [dec_int]
  refine ite2 (fun c=>?_) (fun c=>?_)
  ·have c:(depthOf s s.at_:Int)=64:=beq_iff_eq.mp c
   exact k1 (by omega)
  ·have c:¬ (depthOf s s.at_:Int)=64:=fun q=>c (beq_iff_eq.mpr q)
   have hdp:depthOf s s.at_<64:=by have:=depth_le (s:=s) s.at_;omega
   refine ⟨_,rfl,rd_fld T.fd_Ways_here R.ob rfl ⟨_,rfl,by show 2≤sizeLine;decide,fun t ht=>?_⟩⟩
   have e1:∀ x,H x≠none→upd H t (.tup [.int s.at_,.int w]) x=H x:=fun x hx=>upd_ne fun e=>hx (by rw [e];exact ht)
   have R1:=R.kept e1
   have hd1:upd H t (.tup [.int s.at_,.int w]) sd=some (.dT kvs):=by rw [e1 sd (by rw [hd];simp)];exact hd
   have ht1:upd H t (.tup [.int s.at_,.int w]) t=some (.tup (([Sum.inl (s.at_:Int),Sum.inl (w:Int)]:List Key).map kV)):=upd_same
   generalize hH1:upd H t (.tup [.int s.at_,.int w])=H1 at e1 R1 hd1 ht1
   have go:∀ (H2:Hp) (as2:List Addr) (s2:State) (f2:Nat→Nm) (kvs2:List (List Key × V)) (k:Nat) (D:Ends),D.rt=Q→H2 sd=some (.dT kvs2)→H2 t=some (.tup (([Sum.inl (s.at_:Int),Sum.inl (w:Int)]:List Key).map kV))→WaysAt A H2 p nl sd as2 s2 f2 →
     valV kvs2 [Sum.inl (s.at_:Int),Sum.inl (w:Int)]=some (.int k)→(∀ H3:Hp,WaysAt A H3 p nl sd as2 { s2 with at_:=k } f2→(∀ x,x≠p→H3 x=H2 x)→Q (.int k) H3) →
     (tSeq (sFld K (tVar 0) (tDGet (tFld K (tVar 0) "steps") (tVar 2)) "here") (tRet (tFld K (tVar 0) "here"))) D [some (.ref p),some (.int w),some (.ref t)] H2:=by
    intro H2 as2 s2 f2 kvs2 k D hD h2 ht2 R2 hv2 kk
    have g:=DGet.t h2 ht2
    rw [hv2] at g
    refine ⟨_,rfl,rd_fld T.fd_Ways_steps R2.ob rfl ⟨_,rfl,sd,.int k,rfl,g,_,rfl,wr_fld T.fd_Ways_here R2.ob rfl fun H3 h3 k3=>?_⟩⟩
    refine ⟨_,rfl,rd_fld T.fd_Ways_here h3 rfl ?_⟩
    rw [hD]
    obtain ⟨kvs3,hd3,hl3,hv3⟩:=R2.dict
    have np2:sd≠p:=(ob_nT R2.ob hd3).symm
    exact kk H3 ⟨h3,by rw [k3 nl npl.symm];exact R2.lst,R2.len,fun j a ha=>(R2.obs j a ha).same (k3 a (R2.ne ha).1),⟨kvs3,by rw [k3 sd np2];exact hd3,hl3,hv3⟩,R2.nd⟩ k3
   refine ⟨_,rfl,_,rfl,rd_fld T.fd_Ways_steps R1.ob rfl ⟨sd,_,rfl,DGet.t hd1 ht1,_,rfl,?_⟩⟩
   rw [hv s.at_ w]
   cases hc:child s s.at_ w with
   | some k0 =>
    refine iteF ?_
    refine go H1 as s f kvs k0 _ rfl hd1 ht1 R1 (by rw [hv,hc];rfl) fun H3 R3 k3=>?_
    refine k2 k0 H3 hdp hc R3 fun x hx hxp=>?_
    rw [k3 x hxp,e1 x hx]
   | none =>
    refine iteT ?_
    refine ⟨_,rfl,rd_fld T.fd_Ways_nodes R1.ob rfl ⟨nl,_,rfl,.inl (SqL.of R1.lst),rfl,_,rfl,?_⟩⟩
    rw [dec_int,List.length_map,R.len]
    refine ite2 (fun c2=>?_) (fun c2=>?_)
    ·have c2:(s.nodes.length:Int)=4096:=beq_iff_eq.mp c2
     exact k3 H1 hdp hc (by omega) e1
    ·have c2:¬ (s.nodes.length:Int)=4096:=fun q=>c2 (beq_iff_eq.mpr q)
     refine ⟨_,rfl,rd_fld T.fd_Ways_nodes R1.ob rfl ⟨nl,_,rfl,.inl (SqL.of R1.lst),_,rfl,rd_fld T.fd_Ways_steps R1.ob rfl ⟨_,rfl,sd,_,rfl,DPut.t hd1 ht1 (by omega),?_⟩⟩⟩
     rw [List.length_map,R.len]
     have nts:t≠sd:=ne_of ht1 hd1 fun e=>by cases e
     have ntp:t≠p:=by rintro rfl;exact absurd ht (ob_some R.ob)
     have ntl:t≠nl:=by rintro rfl;rw [R.lst] at ht;cases ht
     generalize hH2:upd H1 sd (.dT (putK kvs [Sum.inl (s.at_:Int),Sum.inl (w:Int)] (.int s.nodes.length)))=H2
     have e2:∀ x,x≠sd→H2 x=H1 x:=fun x hx=>by rw [← hH2];exact upd_ne hx
     have hd2:H2 sd=some (.dT (putK kvs [Sum.inl (s.at_:Int),Sum.inl (w:Int)] (.int s.nodes.length))):=by rw [← hH2];exact upd_same
     have R2ob:Ob H2 p A.c_Ways K_Ways [.ref nl,.ref sd,.int s.at_]:=R1.ob.same (e2 p nps)
     have R2l:H2 nl=some (.lst (as.map V.ref)):=by rw [e2 nl nls];exact R1.lst
     obtain ⟨b0,hb0,_,ho0⟩:=R1.get W.at_
     have ho2:Ob H2 b0 A.c_Node K_Node (ndV s s.at_ (f s.at_)):=ho0.same (e2 b0 (R1.ne hb0).2.2)
     refine ⟨_,rfl,rd_fld T.fd_Ways_nodes R2ob rfl ⟨.inl ⟨rfl,_,SqL.of R2l⟩,_,rfl,rd_fld T.fd_Ways_here R2ob rfl ⟨_,rfl,_,rfl,rd_meth R2ob (by decide +kernel) ⟨p,nl,_,as,s.at_,b0,_,_,rfl,R2ob,R2l,hb0,ho2,rfl,_,_,rfl,rfl,?_⟩⟩⟩⟩
     intro a da na nda nea
     have hp2:=ob_some R2ob
     have nap:a≠p:=fun e=>hp2 (by rw [← e];exact na)
     have ndp:da≠p:=fun e=>hp2 (by rw [← e];exact nda)
     refine ⟨a,da,_,_,_,rfl,upd_same,fun H3 h3 kk3=>⟨rfl,?_⟩⟩
     have e3:∀ x,H2 x≠none→H3 x=H2 x:=fun x hx=>by
      have n1:x≠a:=fun e=>hx (by rw [e];exact na)
      have n2:x≠da:=fun e=>hx (by rw [e];exact nda)
      rw [kk3 x n1,upd_ne n1,upd_ne n2]
     have R3l:H3 nl=some (.lst (as.map V.ref)):=by rw [e3 nl (by rw [R2l];simp)];exact R2l
     refine ⟨nl,_,_,rfl,rfl,R3l,by rw [List.length_map,R.len];omega,?_⟩
     have nal:a≠nl:=fun e=>by rw [e,R2l] at na;cases na
     have nas:a≠sd:=fun e=>by rw [e,hd2] at na;cases na
     have ha0:H a=none:=by
      cases e:H a with
      | none=>rfl
      | some o=>rw [e2 a nas,e1 a (by rw [e];simp),e] at na;cases na
     have naa:∀ j b,as[j]?=some b→b≠a:=fun j b hb e=>by
      have:=ob_some (R.obs j b hb)
      rw [e] at this;exact this ha0
     have lenS:({ s with nodes:=s.nodes++[⟨s.at_,w,0,0,0,0,0⟩] }:State).nodes.length=s.nodes.length+1:=by simp
     have gS:({ s with nodes:=s.nodes++[⟨s.at_,w,0,0,0,0,0⟩] }:State)=grown s ⟨s.at_,w,0,0,0,0,0⟩:=rfl
     have hd3:H3 sd=some (.dT (putK kvs [Sum.inl (s.at_:Int),Sum.inl (w:Int)] (.int s.nodes.length))):=by rw [e3 sd (by rw [hd2];simp)];exact hd2
     have hvn:valV kvs [Sum.inl (s.at_:Int),Sum.inl (w:Int)]=none:=by rw [hv,hc];rfl
     have ht3:upd H3 nl (.lst (as.map V.ref++[.ref a])) t=some (.tup (([Sum.inl (s.at_:Int),Sum.inl (w:Int)]:List Key).map kV)):=by
      have h2t:H2 t=some (.tup (([Sum.inl (s.at_:Int),Sum.inl (w:Int)]:List Key).map kV)):=by rw [e2 t nts];exact ht1
      rw [upd_ne ntl,e3 t (by rw [h2t];simp)];exact h2t
     have hobs:∀ x,H x≠none→x≠nl→x≠sd→upd H3 nl (.lst (as.map V.ref++[.ref a])) x=H x:=fun x hx n1 n2=>by
      have h1x:=e1 x hx
      have h2x:H2 x=H x:=by rw [e2 x n2,h1x]
      rw [upd_ne n1,e3 x (by rw [h2x];exact hx),h2x]
     refine go _ (as++[a]) { s with nodes:=s.nodes++[⟨s.at_,w,0,0,0,0,0⟩] } (fun j=>if j=s.nodes.length then zeroN else f j) _ s.nodes.length _ rfl (by rw [upd_ne nls.symm];exact hd3) ht3 ⟨?_,by rw [upd_same,List.map_append];rfl,by rw [List.length_append,lenS,R.len];rfl,fun j b hb=>?_,⟨_,by rw [upd_ne nls.symm];exact hd3,by rw [putK_new _ hvn,List.length_append,lenS];show kvs.length+1<_;omega,fun x y=>?_⟩,?_⟩ (by rw [valV_put,if_pos rfl]) fun H4 R4 k4'=>?_
     ·exact R.ob.same (hobs p (ob_some R.ob) npl nps)
     ·by_cases hj:j<as.length
      ·rw [List.getElem?_append_left hj] at hb
       have hjn:j<s.nodes.length:=by rw [← R.len];exact hj
       have hne:=R.ne hb
       show Ob _ b _ _ (ndV (grown s _) j (if j=s.nodes.length then zeroN else f j))
       rw [if_neg (Nat.ne_of_lt hjn)]
       have e:ndV (grown s ⟨s.at_,w,0,0,0,0,0⟩) j (f j)=ndV s j (f j):=by unfold ndV;rw [grown_at hjn,grown_depth W hjn]
       rw [e]
       exact (R.obs j b hb).same (hobs b (ob_some (R.obs j b hb)) hne.2.1 hne.2.2)
      ·rw [List.getElem?_append_right (by omega)] at hb
       have hj2:j - as.length=0:=by
        cases e:j - as.length with
        | zero=>rfl
        | succ i=>rw [e] at hb;simp at hb
       rw [hj2] at hb
       have hb:a=b:=by simpa using hb
       subst hb
       have ejn:j=s.nodes.length:=by rw [← R.len];omega
       subst ejn
       show Ob _ a _ _ (ndV (grown s _) s.nodes.length (if s.nodes.length=s.nodes.length then zeroN else f _))
       rw [if_pos rfl]
       have W':depthOf (grown s ⟨s.at_,w,0,0,0,0,0⟩) s.nodes.length=depthOf s s.at_+1:=by
        have Wg:=grown_wf (at':=s.at_) W (by omega) hdp hw hc (Nat.le_of_lt W.at_)
        have Wg':Wf (grown s ⟨s.at_,w,0,0,0,0,0⟩):=Wg
        have hlg:(grown s ⟨s.at_,w,0,0,0,0,0⟩).nodes.length=s.nodes.length+1:=lenS
        have:=depth_step Wg' (k:=s.nodes.length) W.pos (by rw [hlg];omega)
        rw [this]
        show depthOf _ (nodeAt _ _).above+1=_
        rw [grown_new,grown_depth W W.at_]
       have e:ndV (grown s ⟨s.at_,w,0,0,0,0,0⟩) s.nodes.length zeroN=[.int s.at_,.int w,.int (depthOf s s.at_+1),.int 0,.int 0,.int 0,.int 0,.int 0,.int 0,.int 0,.int 0]:=by unfold ndV;rw [grown_new,W'];rfl
       rw [e]
       exact h3.same (upd_ne nal)
     ·rw [valV_put,gS,grown_child W]
      by_cases e:([Sum.inl (x:Int),Sum.inl (y:Int)]:List Key)=[Sum.inl (s.at_:Int),Sum.inl (w:Int)]
      ·rw [if_pos e]
       have e1':x=s.at_:=by
        have:=Sum.inl.inj (List.cons.inj e).1
        omega
       have e2':y=w:=by
        have:=Sum.inl.inj (List.cons.inj (List.cons.inj e).2).1
        omega
       subst e1';subst e2'
       rw [hc]
       show _=Option.map _ (if s.at_=s.at_∧y=y then some s.nodes.length else none)
       rw [if_pos ⟨rfl,rfl⟩];rfl
      ·rw [if_neg e,hv x y]
       cases hcx:child s x y with
       | some q=>rfl
       | none =>
        show none=Option.map _ (if s.at_=x∧w=y then some s.nodes.length else none)
        rw [if_neg fun q=>e (by rw [q.1,q.2])];rfl
     ·rw [List.nodup_append]
      refine ⟨R.nd,by simp,fun x hx y hy=>?_⟩
      obtain ⟨j,hj⟩:=List.mem_iff_getElem?.mp hx
      rw [List.mem_singleton.mp hy]
      exact naa j x hj
     ·refine k4 a H4 hdp hc (by omega) ha0 R4 fun x hx n1 n2 n3=>?_
      rw [k4' x n1,hobs x hx n2 n3]
end
theorem shAt {s:State} (k:Nat):Shape s { s with at_:=k }:=rfl
theorem ndV_at {s:State} (k j:Nat) (n:Nm):ndV { s with at_:=k } j n=ndV s j n:=by
 unfold ndV
 rw [(shAt k).depth,((shAt k).at j).1,((shAt k).at j).2]
section
variable {A:Adr}{H H':Hp}{p nl sd:Addr}{as:List Addr}{s:State}{f:Nat→Nm}
theorem WaysAt.moveTo (R:WaysAt A H p nl sd as s f) {k:Nat} (ho:Ob H' p A.c_Ways K_Ways [.ref nl,.ref sd,.int k]) (hk:∀ b,b≠p→H' b=H b):WaysAt A H' p nl sd as { s with at_:=k } f:=by
 obtain ⟨kvs,hd,hl,hv⟩:=R.dict
 refine ⟨ho,by rw [hk nl (ob_nl R.ob R.lst).symm];exact R.lst,R.len,fun j a ha=>?_,⟨kvs,by rw [hk sd (ob_nT R.ob hd).symm];exact hd,hl,fun a w=>by rw [(shAt k).child];exact hv a w⟩,R.nd⟩
 rw [ndV_at]
 exact (R.obs j a ha).same (hk a (R.ne ha).1)
end
section
variable {P:Program}{w:World}{K:PySem.W.Frag}{mg:Str→Option Value}{base:Heap}{A:Adr}
def sp_Ways_unwind (A:Adr):Sp:=fun vs H Q _=>∃ (p nl sd:Addr) (as:List Addr) (s:State) (f:Nat→Nm) (d:Nat),vs=[.ref p,.int d]∧WaysAt A H p nl sd as s f∧Wf s ∧
 (depthOf s s.at_<d→Q (.int (-5)) H) ∧
 (∀ H':Hp,d≤depthOf s s.at_→WaysAt A H' p nl sd as { s with at_:=up s (depthOf s s.at_ - d) s.at_ } f→(∀ x,x≠p→H' x=H x)→Q (.int (up s (depthOf s s.at_ - d) s.at_:Nat)) H')
theorem sc_Ways_unwind:FnScope ["self","depth"] ["self","depth"] (defScope s_Ways_unwind):=⟨rfl,rfl,rfl,by decide +kernel,rfl,by decide +kernel,by decide +kernel⟩
theorem ok_Ways_unwind (T:Txt K mg A):FnOk P w K mg base CX0 2 A.f_Ways_unwind A.d_Ways_unwind ["self","depth"] (sp_Ways_unwind A):=by
 refine (T.m_Ways_unwind.fn).ok sc_Ways_unwind (fun vs H Q E h=>?_) (fun cdv AA outer s H vs Q E hr h=>?_)
 ·obtain ⟨p,nl,sd,as,s,f,d,rfl,_⟩:=h
  rfl
 ·obtain ⟨p,nl,sd,as,s,f,d,rfl,R,W,k1,k2⟩:=h
  refine ⟨_,(pss_cons (ps_if (pt_cmpR op_gt (pv 1) (pe_meth0 (pv 0) T.cl_Ways T.m_Ways_depth_here.me (ok_Ways_depth_here T) (hr.mono (by decide)) T.m_Ways_depth_here.bi .nil pass0) (nomark _))
    (pss_one (ps_ret (pe_gint T.g_NOT_SO_LONG)))
    pss_nil)
   (pss_cons (ps_while PassesOwn.never (pt_cmpR op_gt (pe_meth0 (pv 0) T.cl_Ways T.m_Ways_depth_here.me (ok_Ways_depth_here T) (hr.mono (by decide)) T.m_Ways_depth_here.bi .nil pass0) (pv 1) (nomark _))
    (pss_one (ps_fld (pv 0) (pe_fld (pe_ix ix_list (pe_fld (pv 0) rfl) (pe_fld (pv 0) rfl) (fun _ _=>rfl)) rfl) rfl)))
   (pss_one (ps_ret (pe_fld (pv 0) rfl))))),?_⟩
  obtain ⟨c0,hc0,_,hoc⟩:=R.get W.at_
  refine ⟨_,rfl,_,rfl,rd_meth R.ob (by decide +kernel) ⟨p,nl,_,as,s.at_,c0,_,_,rfl,R.ob,R.lst,hc0,hoc,rfl,_,_,rfl,rfl,_,rfl,?_⟩⟩
  refine ite2 (fun c=>?_) (fun c=>?_)
  ·have c:(depthOf s s.at_:Int)<d:=of_decide_eq_true c
   exact k1 (by omega)
  ·have c:¬ (depthOf s s.at_:Int)<d:=fun q=>c (decide_eq_true q)
   have hdl:d≤depthOf s s.at_:=by omega
   refine ⟨fun m σ H'=>∃ i:Nat,σ=[some (.ref p),some (.int d)]∧i+m=depthOf s s.at_ - d∧WaysAt A H' p nl sd as { s with at_:=up s i s.at_ } f∧∀ x,x≠p→H' x=H x,⟨depthOf s s.at_ - d,0,rfl,by omega,R,fun _ _=>rfl⟩,?_⟩
   rintro m σ H' ⟨i,rfl,hi,R',hk⟩
   have hlt:up s i s.at_<s.nodes.length:=up_lt W i W.at_
   obtain ⟨c1,hc1,_,ho1⟩:=R'.get (k:=up s i s.at_) hlt
   have hdp:depthOf { s with at_:=up s i s.at_ } (up s i s.at_)=depthOf s s.at_ - i:=by rw [(shAt _).depth];exact depth_up W i W.at_ (by omega)
   refine ⟨_,rfl,rd_meth R'.ob (by decide +kernel) ⟨p,nl,_,as,up s i s.at_,c1,_,_,rfl,R'.ob,R'.lst,hc1,ho1,rfl,_,rfl,_,_,rfl,rfl,_,rfl,?_⟩⟩
   refine ite2 (fun c2=>wl_go ?_) (fun c2=>?_)
   ·have c2:(d:Int)<depthOf { s with at_:=up s i s.at_ } (up s i s.at_):=of_decide_eq_true c2
    rw [hdp] at c2
    refine ⟨_,rfl,rd_fld T.fd_Ways_nodes R'.ob rfl ⟨_,rfl,rd_fld T.fd_Ways_here R'.ob rfl ⟨nl,_,_,_,rfl,rfl,SqL.of R'.lst,atI_nat (j:=up s i s.at_) (v:=.ref c1) (by rw [List.getElem?_map,hc1];rfl),rd_fld T.fd_Node_above ho1 rfl ⟨_,rfl,wr_fld T.fd_Ways_here R'.ob rfl fun H3 h3 k3=>?_⟩⟩⟩⟩
    refine ⟨m - 1,by omega,i+1,rfl,by omega,?_,fun x hx=>by rw [k3 x hx,hk x hx]⟩
    rw [up_succ]
    exact R'.moveTo h3 k3
   ·have c2:¬ (d:Int)<depthOf { s with at_:=up s i s.at_ } (up s i s.at_):=fun q=>c2 (decide_eq_true q)
    rw [hdp] at c2
    have ei:i=depthOf s s.at_ - d:=by omega
    refine ⟨_,rfl,rd_fld T.fd_Ways_here R'.ob rfl ?_⟩
    subst ei
    exact k2 H' hdl R' hk
def sp_Ways_leave (A:Adr):Sp:=fun vs H Q _=>∃ (p nl sd:Addr) (as:List Addr) (s:State) (f:Nat→Nm),vs=[.ref p]∧WaysAt A H p nl sd as s f∧Wf s ∧
 (s.at_=0→Q (.int (-5)) H) ∧
 (∀ H':Hp,s.at_≠0→WaysAt A H' p nl sd as { s with at_:=(nodeAt s s.at_).above } f→(∀ x,x≠p→H' x=H x)→Q (.int ((nodeAt s s.at_).above:Nat)) H')
theorem sc_Ways_leave:FnScope ["self"] ["self"] (defScope s_Ways_leave):=⟨rfl,rfl,rfl,by decide +kernel,rfl,by decide +kernel,by decide +kernel⟩
theorem ok_Ways_leave (T:Txt K mg A):FnOk P w K mg base CX0 3 A.f_Ways_leave A.d_Ways_leave ["self"] (sp_Ways_leave A):=by
 refine (T.m_Ways_leave.fn).ok sc_Ways_leave (fun vs H Q E h=>?_) (fun cdv AA outer s H vs Q E hr h=>?_)
 ·obtain ⟨p,nl,sd,as,s,f,rfl,_⟩:=h
  rfl
 ·obtain ⟨p,nl,sd,as,s,f,rfl,R,W,k1,k2⟩:=h
  refine ⟨_,(pss_cons (ps_if (pt_cmpR op_eq (pe_fld (pv 0) rfl) pe_int (nomark _))
    (pss_one (ps_ret (pe_gint T.g_NOT_SO_LONG)))
    pss_nil)
   (pss_one (ps_ret (pe_meth (pv 0) T.cl_Ways T.m_Ways_unwind.me (ok_Ways_unwind T) (hr.mono (by decide)) T.m_Ways_unwind.bi .nil pass0 (pa_cons (pe_op op_sub (pe_meth0 (pv 0) T.cl_Ways T.m_Ways_depth_here.me (ok_Ways_depth_here T) (hr.mono (by decide)) T.m_Ways_depth_here.bi .nil pass0) pe_int) pa_nil))))),?_⟩
  obtain ⟨c0,hc0,_,hoc⟩:=R.get W.at_
  refine ⟨_,rfl,rd_fld T.fd_Ways_here R.ob rfl ⟨rfl,_,rfl,?_⟩⟩
  rw [dec_int]
  refine ite2 (fun c=>?_) (fun c=>?_)
  ·have c:(s.at_:Int)=0:=beq_iff_eq.mp c
   exact k1 (by omega)
  ·have c:¬ (s.at_:Int)=0:=fun q=>c (beq_iff_eq.mpr q)
   have hne:s.at_≠0:=by omega
   have hst:=depth_step W (k:=s.at_) (by omega) W.at_
   refine ⟨_,rfl,rd_meth R.ob (by decide +kernel) ⟨_,rfl,rd_meth R.ob (by decide +kernel) ⟨p,nl,_,as,s.at_,c0,_,_,rfl,R.ob,R.lst,hc0,hoc,rfl,_,_,rfl,rfl,p,nl,sd,as,s,f,depthOf s s.at_ - 1,?_,R,W,fun hh=>?_,fun H' _ R' hk=>?_⟩⟩⟩
   ·show [V.ref p,V.int ((depthOf s s.at_:Int) - 1)]=_
    rw [show ((depthOf s s.at_:Int) - 1)=((depthOf s s.at_ - 1:Nat):Int) by omega]
   ·omega
   ·have e:depthOf s s.at_ - (depthOf s s.at_ - 1)=1:=by omega
    rw [e] at R' ⊢
    exact k2 H' hne R' hk
def sp_Ways_find (A:Adr):Sp:=fun vs H Q _=>∃ (p nl sd l:Addr) (as:List Addr) (s:State) (f:Nat→Nm) (ws:List Nat),vs=[.ref p,.ref l]∧WaysAt A H p nl sd as s f∧H l=some (.lst (ws.map fun (w:Nat)=>V.int (w:Int))) ∧
 ∀ H':Hp,(∀ x,H x≠none→H' x=H x)→Q (.int (match findWay s ws with | some k=>(k:Int) | none=>-4)) H'
theorem sc_Ways_find:FnScope ["self","way","k","who","step"] ["self","way"] (defScope s_Ways_find):=⟨rfl,rfl,rfl,by decide +kernel,rfl,by decide +kernel,by decide +kernel⟩
theorem ok_Ways_find (T:Txt K mg A):FnOk P w K mg base CX0 1 A.f_Ways_find A.d_Ways_find ["self","way"] (sp_Ways_find A):=by
 refine (T.m_Ways_find.fn).ok sc_Ways_find (fun vs H Q E h=>?_) (fun cdv AA outer s H vs Q E hr h=>?_)
 ·obtain ⟨p,nl,sd,l,as,s,f,ws,rfl,_⟩:=h
  rfl
 ·obtain ⟨p,nl,sd,l,as,s,f,ws,rfl,R,hl,k⟩:=h
  refine ⟨_,(pss_cons (ps_set (i:=2) sc_Ways_find.nd rfl (Or.inl rfl) pe_int)
   (pss_cons (ps_for PassesOwn.never rfl (pi_list (pv 1)) (pg_name (i:=3) sc_Ways_find.nd rfl (Or.inl rfl))
    (pss_cons (ps_set (i:=4) sc_Ways_find.nd rfl (Or.inl rfl) (pe_tup (pa_cons (pv 2) (pa_cons (pv 3) pa_nil))))
    (pss_cons (ps_if (pt_cmp (pc_dnotin (hu_of hr) (pv 4) (pe_fld (pv 0) rfl)))
     (pss_one (ps_ret (pe_gint T.g_NOT_THERE)))
     pss_nil)
    (pss_one (ps_set (i:=2) sc_Ways_find.nd rfl (Or.inl rfl) (pe_dget (hu_of hr) (pe_fld (pv 0) rfl) (pv 4) (fun _ _=>rfl)))))))
   (pss_one (ps_ret (pv 2))))),?_⟩
  refine ⟨_,rfl,l,rfl,⟨_,SqL.of hl⟩,for_list (xs:=ws.map fun (w:Nat)=>V.int (w:Int)) (fun i σ H'=>∃ (q:Nat) (a b:Option V),σ=[some (.ref p),some (.ref l),some (.int q),a,b]∧(∀ x,H x≠none→H' x=H x)∧findWay s ws=(ws.drop i).foldlM (fun k who=>child s k who) q) ?_ ?_ ?_ ?_⟩
  ·exact ⟨0,none,none,rfl,fun _ _=>rfl,rfl⟩
  ·rintro i σ H' _ ⟨q,a,b,rfl,hk,_⟩
   exact SqL.of (by rw [hk l (by rw [hl];simp)];exact hl)
  ·rintro i x σ H' hx ⟨q,a,b,rfl,hk,hf⟩
   rw [List.getElem?_map] at hx
   obtain ⟨v,hv,rfl⟩:=Option.map_eq_some_iff.mp hx
   have R':=R.kept hk
   obtain ⟨kvs,hd,hll,hvv⟩:=R'.dict
   have hdrop:ws.drop i=v::ws.drop (i+1):=by
    obtain ⟨hi,e⟩:=List.getElem?_eq_some_iff.mp hv
    rw [List.drop_eq_getElem_cons hi,e]
   rw [hdrop,List.foldlM_cons] at hf
   refine ⟨_,rfl,_,rfl,by show 2≤sizeLine;decide,fun t ht=>?_⟩
   have e1:∀ x,H' x≠none→upd H' t (.tup [.int q,.int v]) x=H' x:=fun x hx=>upd_ne fun e=>hx (by rw [e];exact ht)
   have R1:=R'.kept e1
   have hd1:upd H' t (.tup [.int q,.int v]) sd=some (.dT kvs):=by rw [e1 sd (by rw [hd];simp)];exact hd
   have ht1:upd H' t (.tup [.int q,.int v]) t=some (.tup (([Sum.inl (q:Int),Sum.inl (v:Int)]:List Key).map kV)):=upd_same
   have g:=DGet.t hd1 ht1
   rw [hvv q v] at g
   refine ⟨_,rfl,_,rfl,rd_fld T.fd_Ways_steps R1.ob rfl ⟨sd,_,rfl,g,_,rfl,?_⟩⟩
   have hkk:∀ x,H x≠none→upd H' t (.tup [.int q,.int v]) x=H x:=fun x hx=>by rw [e1 x (by rw [hk x hx];exact hx),hk x hx]
   cases hc:child s q v with
   | none =>
    rw [hc] at hf
    refine iteT ?_
    have:=k _ hkk
    rw [hf] at this
    exact this
   | some c =>
    rw [hc] at hf g
    refine iteF ?_
    exact ⟨_,rfl,rd_fld T.fd_Ways_steps R1.ob rfl ⟨_,rfl,sd,_,rfl,g,c,_,_,rfl,hkk,hf⟩⟩
  ·rintro σ H' ⟨q,a,b,rfl,hk,hf⟩
   rw [List.length_map,List.drop_length] at hf
   have:=k H' hk
   rw [hf] at this
   exact ⟨_,rfl,this⟩
def sp_Ways_nodes_up (A:Adr):Sp:=fun vs H Q _=>∃ (p nl sd:Addr) (as:List Addr) (s:State) (f:Nat→Nm) (k:Nat),vs=[.ref p,.int k]∧WaysAt A H p nl sd as s f∧Wf s∧k<s.nodes.length ∧
 ∀ (l:Addr) (H':Hp),H l=none→H' l=some (.lst ((chain s k).map fun j=>V.ref (as.getD j 0)))→(∀ x,H x≠none→H' x=H x)→Q (.ref l) H'
theorem sc_Ways_nodes_up:FnScope ["self","k","found"] ["self","k"] (defScope s_Ways_nodes_up):=⟨rfl,rfl,rfl,by decide +kernel,rfl,by decide +kernel,by decide +kernel⟩
theorem ok_Ways_nodes_up (T:Txt K mg A):FnOk P w K mg base CX0 1 A.f_Ways_nodes_up A.d_Ways_nodes_up ["self","k"] (sp_Ways_nodes_up A):=by
 refine (T.m_Ways_nodes_up.fn).ok sc_Ways_nodes_up (fun vs H Q E h=>?_) (fun cdv AA outer s H vs Q E hr h=>?_)
 ·obtain ⟨p,nl,sd,as,s,f,k,rfl,_⟩:=h
  rfl
 ·obtain ⟨p,nl,sd,as,s,f,k,rfl,R,W,hk,kk⟩:=h
  refine ⟨_,(pss_cons (ps_set (i:=2) sc_Ways_nodes_up.nd rfl (Or.inl rfl) (pe_lst (pa_cons (pe_ix ix_list (pe_fld (pv 0) rfl) (pv 1) (fun _ _=>rfl)) pa_nil)))
   (pss_cons (ps_while PassesOwn.never (pt_cmpR op_ne (pv 1) pe_int (nomark _))
    (pss_cons (ps_set (i:=1) sc_Ways_nodes_up.nd rfl (Or.inl rfl) (pe_fld (pe_ix ix_list (pe_fld (pv 0) rfl) (pv 1) (fun _ _=>rfl)) rfl))
    (pss_one (ps_expr (pe_bm PySem.F.plainAttrs_list PySem.F.slot_list_append PySem.F.type_list_append mt_append (pv 2) (pa_cons (pe_ix ix_list (pe_fld (pv 0) rfl) (pv 1) (fun _ _=>rfl)) pa_nil))))))
   (pss_one (ps_ret (pv 2))))),?_⟩
  obtain ⟨a0,ha0,ga0,ho0⟩:=R.get hk
  have hsl:=PySem.sizeLine_eq
  have hdl:=depth_le (s:=s) k
  refine ⟨_,rfl,rd_fld T.fd_Ways_nodes R.ob rfl ⟨_,rfl,nl,_,_,_,rfl,rfl,SqL.of R.lst,atI_nat (j:=k) (v:=.ref a0) (by rw [List.getElem?_map,ha0];rfl),by show 1≤sizeLine;decide,fun l hl=>?_⟩⟩
  have e1:∀ x,H x≠none→upd H l (.lst [.ref a0]) x=H x:=fun x hx=>upd_ne fun e=>hx (by rw [e];exact hl)
  refine ⟨fun m σ H'=>∃ i:Nat,σ=[some (.ref p),some (.int (up s i k:Nat)),some (.ref l)]∧i+m=depthOf s k∧H' l=some (.lst ((List.range (i+1)).map fun j=>V.ref (as.getD (up s j k) 0)))∧∀ x,H x≠none→H' x=H x,⟨depthOf s k,0,rfl,by omega,?_,e1⟩,?_⟩
  ·rw [upd_same,← ga0];rfl
  ·rintro m σ H' ⟨i,rfl,hi,hl',hke⟩
   have hlt:=up_lt W i hk
   have R':=R.kept hke
   obtain ⟨b,hb,gb,hob⟩:=R'.get hlt
   have hdp:=depth_up W i hk (by omega)
   refine ⟨_,rfl,rfl,_,rfl,?_⟩
   rw [dec_int]
   refine ite2 (fun c=>wl_go ?_) (fun c=>?_)
   ·have c:¬ ((up s i k:Nat):Int)=0:=fun q=>by rw [q] at c;simp at c
    have hpos:0<m:=by
     have h0:¬ depthOf s (up s i k)=0:=fun z=>c (by rw [(depth_pos W hlt).mp z];rfl)
     omega
    have hlt2:=up_lt W (i+1) hk
    obtain ⟨b2,hb2,gb2,hob2⟩:=R'.get hlt2
    have eab:(nodeAt s (up s i k)).above=up s (i+1) k:=(up_succ i k).symm
    refine ⟨_,rfl,rd_fld T.fd_Ways_nodes R'.ob rfl ⟨_,rfl,nl,_,_,_,rfl,rfl,SqL.of R'.lst,atI_nat (j:=up s i k) (v:=.ref b) (by rw [List.getElem?_map,hb];rfl),rd_fld T.fd_Node_above hob rfl ?_⟩⟩
    refine ⟨_,rfl,.inl ⟨rfl,_,SqL.of hl'⟩,_,rfl,rd_fld T.fd_Ways_nodes R'.ob rfl ⟨_,rfl,nl,_,_,_,rfl,rfl,SqL.of R'.lst,atI_nat (j:=(nodeAt s (up s i k)).above) (v:=.ref b2) (by rw [eab,List.getElem?_map,hb2];rfl),l,_,_,rfl,rfl,hl',by rw [List.length_map,List.length_range];omega,?_⟩⟩
    refine ⟨m - 1,by omega,i+1,by rw [← eab];rfl,by omega,?_,fun x hx=>?_⟩
    ·rw [upd_same,List.range_succ (n:=i+1),List.map_append,← gb2];rfl
    ·rw [upd_ne (fun e=>hx (by rw [e];exact hl)),hke x hx]
   ·have c:((up s i k:Nat):Int)=0:=by
     cases e:(((up s i k:Nat):Int) == 0) with
     | true=>exact beq_iff_eq.mp e
     | false=>rw [e] at c;exact absurd rfl c
    have h0:depthOf s (up s i k)=0:=(depth_pos W hlt).mpr (by omega)
    have ei:i=depthOf s k:=by omega
    subst ei
    refine ⟨_,rfl,kk l H' hl ?_ hke⟩
    rw [hl']
    unfold chain
    rw [List.map_map];rfl
end
theorem for_enum {K:PySem.W.Frag}{a:Addr}{xs:List V}{g:TG}{tb:TS}{D:Ends}{σ:L2.St}{H:Hp} (Pv:Nat→L2.St→Hp→Prop) (h0:Pv 0 σ H) (hl:∀ i σ H,i≤xs.length→Pv i σ H→SqL K H a xs)
  (hs:∀ (i:Nat) x σ H T,xs[i]?=some x→Pv i σ H→H T=none→g (.ref T) σ (upd H T (.tup [.int (i:Int),x])) fun σ2 H2=>tb { D with nx:=Pv (i+1),ct:=Pv (i+1),bk:=D.nx } σ2 H2) (hd:∀ σ H,Pv xs.length σ H→D.nx σ H) :
  ∃ W:Nat→Nat→L2.St→Hp→Prop,(∃ m,W 0 m σ H)∧∀ i m σ H,W i m σ H →
   ((Ite K a).stop i H∧D.nx σ H)∨((Ite K a).go i H∧∃ N:L2.St→Hp→Prop,(∀ σ' H',N σ' H'→∃ m',m'<m∧W (i+1) m' σ' H')∧∀ x H',(Ite K a).yld i H x H'→g x σ H' fun σ2 H2=>tb { D with nx:=N,ct:=N,bk:=D.nx } σ2 H2):=by
 refine ⟨fun i m σ H=>m=xs.length - i∧i≤xs.length∧Pv i σ H,⟨xs.length,by simp,Nat.zero_le _,h0⟩,?_⟩
 rintro i m σ H ⟨rfl,hi,p⟩
 have q:=hl i σ H hi p
 by_cases hlt:i<xs.length
 ·refine .inr ⟨⟨xs,xs[i],q,by simp [hlt]⟩,Pv (i+1),fun σ' H' p'=>⟨xs.length - (i+1),by omega,rfl,hlt,p'⟩,fun x H' y=>?_⟩
  obtain ⟨T,z,rfl,hT,rfl,y⟩:=y
  exact hs i z _ _ T (y xs q) p hT
 ·have e:i=xs.length:=by omega
  subst e
  exact .inl ⟨⟨xs,q,Nat.le_refl _⟩,hd σ H p⟩
def Tups (H:Hp) (l:Addr) (rows:List (List Int)):Prop:=∃ ps:List (Addr × List Int),H l=some (.lst (ps.map fun p=>V.ref p.1))∧ps.map (·.2)=rows∧∀ p∈ps,H p.1=some (.tup (p.2.map V.int))
section
variable {H H':Hp}{l:Addr}{rows:List (List Int)}
theorem Tups.nil (h:H l=some (.lst [])):Tups H l []:=⟨[],h,rfl,fun p hp=>by simp at hp⟩
theorem Tups.keep (h:Tups H l rows) (k:∀ x,H x≠none→H' x=H x):Tups H' l rows:=by
 obtain ⟨ps,e,r,t⟩:=h
 exact ⟨ps,by rw [k l (by rw [e];simp)];exact e,r,fun p hp=>by rw [k p.1 (by rw [t p hp];simp)];exact t p hp⟩
theorem Tups.len (h:Tups H l rows):∃ xs,H l=.some (.lst xs)∧xs.length=rows.length:=by
 obtain ⟨ps,e,r,t⟩:=h
 exact ⟨_,e,by rw [List.length_map,← r,List.length_map]⟩
theorem Tups.push {xs:List V}{t:Addr}{r:List Int} (h:Tups H l rows) (hx:H l=.some (.lst xs)) (ht:H t=none) (hl':H' l=.some (.lst (xs++[.ref t]))) (ht':H' t=.some (.tup (r.map V.int))) (k:∀ x,H x≠none→x≠l→H' x=H x):Tups H' l (rows++[r]):=by
 obtain ⟨ps,e,rr,tt⟩:=h
 rw [e] at hx;cases hx
 refine ⟨ps++[(t,r)],by rw [hl',List.map_append];rfl,by rw [List.map_append,rr];rfl,fun p hp=>?_⟩
 rcases List.mem_append.mp hp with hp | hp
 ·have:=tt p hp
  rw [k p.1 (by rw [this];simp) (ne_of this e fun z=>by cases z)];exact this
 ·rw [List.mem_singleton.mp hp];exact ht'
theorem Tups.get (h:Tups H l rows) {i:Nat}{r:List Int} (hr:rows[i]?=.some r):∃ xs t,H l=.some (.lst xs)∧xs[i]?=.some (.ref t)∧H t=.some (.tup (r.map V.int)):=by
 obtain ⟨ps,e,rr,tt⟩:=h
 rw [← rr,List.getElem?_map] at hr
 obtain ⟨p,hp,rfl⟩:=Option.map_eq_some_iff.mp hr
 exact ⟨_,p.1,e,by rw [List.getElem?_map,hp];rfl,tt p (List.mem_of_getElem? hp)⟩
end
theorem filter_snoc {α:Type} (q:Nat→Bool) (g:Nat→α) (i:Nat):((List.range (i+1)).filter q).map g=((List.range i).filter q).map g++if q i=true then [g i] else []:=by
 rw [List.range_succ,List.filter_append,List.map_append]
 congr 1
 rw [List.filter_cons]
 cases q i<;>rfl
section
variable {P:Program}{w:World}{K:PySem.W.Frag}{mg:Str→Option Value}{base:Heap}{A:Adr}
def sp_Ways_whos (A:Adr):Sp:=fun vs H Q _=>∃ (p nl sd:Addr) (as:List Addr) (s:State) (f:Nat→Nm) (k:Nat),vs=[.ref p,.int k]∧WaysAt A H p nl sd as s f∧Wf s∧k<s.nodes.length ∧
 ∀ (l:Addr) (H':Hp),H l=none→H' l=some (.lst ((pathOf s k).map fun (j:Nat)=>V.int (j:Int)))→(∀ x,H x≠none→H' x=H x)→Q (.ref l) H'
theorem sc_Ways_whos:FnScope ["self","k","found","node"] ["self","k"] (defScope s_Ways_whos):=⟨rfl,rfl,rfl,by decide +kernel,rfl,by decide +kernel,by decide +kernel⟩
theorem ok_Ways_whos (T:Txt K mg A):FnOk P w K mg base CX0 2 A.f_Ways_whos A.d_Ways_whos ["self","k"] (sp_Ways_whos A):=by
 refine (T.m_Ways_whos.fn).ok sc_Ways_whos (fun vs H Q E h=>?_) (fun cdv AA outer s H vs Q E hr h=>?_)
 ·obtain ⟨p,nl,sd,as,s,f,k,rfl,_⟩:=h
  rfl
 ·obtain ⟨p,nl,sd,as,s,f,k,rfl,R,W,hk,kk⟩:=h
  refine ⟨_,(pss_cons (ps_setLc (i:=2) (own:=[("node",3)]) (g:=(gName 3)) (te:=(tFld K (tVar 3) "who")) rfl sc_Ways_whos.nd rfl rfl rfl (pi_list (pe_slice sl_list (pe_meth (pv 0) T.cl_Ways T.m_Ways_nodes_up.me (ok_Ways_nodes_up T) (hr.mono (by decide)) T.m_Ways_nodes_up.bi .nil pass0 (pa_cons (pv 1) pa_nil)) po_none (po_some (pe_un un_neg pe_int)))) ⟨rfl,by decide +kernel,(show ∀ p∈([("node",3)]:List (Str × Nat)),(["self","k","found","node"]:List Str)[p.2]?=some p.1 by decide +kernel),(show ∀ y∈(_:List (Str × NameKind)),y.2=NameKind.free→(defScope s_Ways_whos).names.lookup y.1=some NameKind.cell∨(defScope s_Ways_whos).names.lookup y.1=some NameKind.free by decide +kernel),(show ∀ y∈(_:List (Str × NameKind)),y.2=NameKind.local∨y.2=NameKind.cell→y.1∈([("node",3)]:List (Str × Nat)).map (·.1)∨y.1∉(["self","k","found","node"]:List Str) by decide +kernel)⟩ (fun _ _ _ _ _=>(pg_name (i:=3) sc_Ways_whos.nd rfl (Or.inl rfl))) (fun _ _ _ _ _=>pts_nil) (fun _ _ _ _ _=>(pe_fld (pv 3) rfl)))
   (pss_cons (ps_expr (pe_bm0 PySem.F.plainAttrs_list PySem.F.slot_list_reverse PySem.F.type_list_reverse mt_reverse (pv 2)))
   (pss_one (ps_ret (pv 2))))),?_⟩
  have hsl:=PySem.sizeLine_eq
  have hdl:=depth_le (s:=s) k
  refine ⟨_,rfl,rd_meth R.ob (by decide +kernel) ⟨_,rfl,p,nl,sd,as,s,f,k,rfl,R,W,hk,fun l1 H1 hl1 h1 e1=>?_⟩⟩
  refine ⟨_,rfl,_,rfl,l1,_,rfl,SqL.of h1,fun l2 hl2=>?_⟩
  have hcut:cutV ((chain s k).map fun j=>V.ref (as.getD j 0)) none (some (-1))=(List.range (depthOf s k)).map fun i=>V.ref (as.getD (up s i k) 0):=by
   have e0:HT.sIx ((chain s k).map fun j=>V.ref (as.getD j 0)).length ((chain s k).map fun j=>V.ref (as.getD j 0)).length (some (-1))=depthOf s k:=by
    have e0:∀ n:Nat,HT.sIx n n (some (-1))=(-1+(n:Int)).toNat:=fun n=>by
     show (if (-1:Int)<0 then (-1+(n:Int)).toNat else min (-1:Int).toNat n)=_
     rw [if_pos (by decide)]
    rw [e0,List.length_map,chain_len]
    omega
   unfold cutV
   rw [HT.sIx_none,e0,List.drop_zero,Nat.sub_zero]
   unfold chain
   rw [List.map_map,← List.map_take,List.take_range,Nat.min_eq_left (Nat.le_succ _)]
   rfl
  have e2:∀ x,H x≠none→upd H1 l2 (.lst (cutV ((chain s k).map fun j=>V.ref (as.getD j 0)) none (some (-1)))) x=H x:=fun x hx=>by
   have:=e1 x hx
   rw [upd_ne (fun e=>hx (by rw [← this,e];exact hl2)),this]
  have h2:upd H1 l2 (.lst (cutV ((chain s k).map fun j=>V.ref (as.getD j 0)) none (some (-1)))) l2=some (.lst ((List.range (depthOf s k)).map fun i=>V.ref (as.getD (up s i k) 0))):=by rw [upd_same,hcut]
  have hl20:H l2=none:=by
   cases e:H l2 with
   | none=>rfl
   | some o=>rw [e1 l2 (by rw [e];simp),e] at hl2;cases hl2
  generalize upd H1 l2 (.lst (cutV ((chain s k).map fun j=>V.ref (as.getD j 0)) none (some (-1))))=H2 at e2 h2
  refine ⟨l2,rfl,⟨_,SqL.of h2⟩,fun D hD=>?_⟩
  have hD0:H D=none:=by
   cases e:H D with
   | none=>rfl
   | some o=>rw [e2 D (by rw [e];simp),e] at hD;cases hD
  refine lc_list (xs:=(List.range (depthOf s k)).map fun i=>V.ref (as.getD (up s i k) 0)) (fun i H'=>H' l2=H2 l2∧(∀ x,H x≠none→H' x=H x)∧H' D=some (.lst ((List.range i).map fun j=>V.int ((nodeAt s (up s j k)).who:Int)))) ?_ ?_ ?_ ?_
  ·exact ⟨upd_ne (fun e=>by rw [e,hD] at h2;cases h2),fun x hx=>by rw [upd_ne (fun e=>hx (by rw [e];exact hD0)),e2 x hx],upd_same⟩
  ·rintro i H' _ ⟨h,_⟩
   exact SqL.of (h.trans h2)
  ·rintro i x H' hx ⟨q1,q2,q3⟩
   have hi:i<depthOf s k:=by have:=(List.getElem?_eq_some_iff.mp hx).1;simpa using this
   rw [List.getElem?_map,List.getElem?_range hi] at hx
   cases hx
   obtain ⟨b,hb,gb,hob⟩:=(R.kept q2).get (up_lt W i hk)
   show gName 3 (V.ref (as.getD (up s i k) 0)) _ _ _
   rw [gb]
   refine ⟨rfl,?_⟩
   refine ⟨_,rfl,rd_fld T.fd_Node_who hob rfl ⟨_,q3,by rw [List.length_map,List.length_range];omega,?_,?_,?_⟩⟩
   ·rw [upd_ne (fun e=>by rw [e,hD] at h2;cases h2),q1]
   ·intro x hx
    rw [upd_ne (fun e=>hx (by rw [e];exact hD0)),q2 x hx]
   ·rw [upd_same,List.range_succ,List.map_append];rfl
  ·rintro H' ⟨q1,q2,q3⟩
   rw [List.length_map,List.length_range] at q3
   refine ⟨_,rfl,.inl ⟨rfl,_,SqL.of q3⟩,D,_,rfl,rfl,q3,_,rfl,?_⟩
   refine kk D _ hD0 ?_ fun x hx=>by rw [upd_ne (fun e=>hx (by rw [e];exact hD0)),q2 x hx]
   rw [upd_same]
   unfold pathOf
   rw [show Sh28.DEEP=64 from rfl,wayUp_chain W hk,← List.map_reverse,← List.map_reverse,List.map_map]
   rfl
def sp_Ways_count_made (A:Adr):Sp:=fun vs H Q _=>∃ (p nl sd:Addr) (as:List Addr) (s:State) (f:Nat→Nm) (k:Nat) (z:Int),vs=[.ref p,.int k,.int z]∧WaysAt A H p nl sd as s f∧Wf s∧k<s.nodes.length ∧
 ∀ H':Hp,WaysAt A H' p nl sd as s (fun j=>{ f j with mp:=(f j).mp+(if j=k then 1 else 0),mb:=(f j).mb+(if j=k then z else 0),am:=(f j).am+if under s j k then z else 0 })→(∀ x,H x≠none→x∉as→H' x=H x)→Q .non H'
theorem sc_Ways_count_made:FnScope ["self","k","size","node"] ["self","k","size"] (defScope s_Ways_count_made):=⟨rfl,rfl,rfl,by decide +kernel,rfl,by decide +kernel,by decide +kernel⟩
theorem ok_Ways_count_made (T:Txt K mg A):FnOk P w K mg base CX0 2 A.f_Ways_count_made A.d_Ways_count_made ["self","k","size"] (sp_Ways_count_made A):=by
 refine (T.m_Ways_count_made.fn).ok sc_Ways_count_made (fun vs H Q E h=>?_) (fun cdv AA outer s H vs Q E hr h=>?_)
 ·obtain ⟨p,nl,sd,as,s,f,k,z,rfl,_⟩:=h
  rfl
 ·obtain ⟨p,nl,sd,as,s,f,k,z,rfl,R,W,hk,kk⟩:=h
  refine ⟨_,(pss_cons (ps_fldaug (pe_ix ix_list (pe_fld (pv 0) rfl) (pv 1) (fun _ _=>rfl)) pe_int in_add)
   (pss_cons (ps_fldaug (pe_ix ix_list (pe_fld (pv 0) rfl) (pv 1) (fun _ _=>rfl)) (pv 2) in_add)
   (pss_one (ps_for PassesOwn.never rfl (pi_list (pe_meth (pv 0) T.cl_Ways T.m_Ways_nodes_up.me (ok_Ways_nodes_up T) (hr.mono (by decide)) T.m_Ways_nodes_up.bi .nil pass0 (pa_cons (pv 1) pa_nil))) (pg_name (i:=3) sc_Ways_count_made.nd rfl (Or.inl rfl))
    (pss_one (ps_fldaug (pv 3) (pv 2) in_add)))))),?_⟩
  obtain ⟨a,ha,ga,hoa⟩:=R.get hk
  have hna:∀ {j b},as[j]?=some b→b∈as:=fun h=>List.mem_of_getElem? h
  refine ⟨_,rfl,rd_fld T.fd_Ways_nodes R.ob rfl ⟨_,rfl,nl,_,_,_,rfl,rfl,SqL.of R.lst,atI_nat (j:=k) (v:=.ref a) (by rw [List.getElem?_map,ha];rfl),au_fld (m:=(f k).mp) (j:=1) T.fd_Node_made_pieces hoa rfl rfl (fun Rr r=>r) fun H1 h1 k1=>?_⟩⟩
  have R1:=R.num (n:={ f k with mp:=(f k).mp+1 }) ha h1 k1
  obtain ⟨a',ha',ga',hoa1⟩:=R1.get hk
  rw [ha] at ha';cases ha'
  rw [if_pos rfl] at hoa1
  refine ⟨_,rfl,rd_fld T.fd_Ways_nodes R1.ob rfl ⟨_,rfl,nl,_,_,_,rfl,rfl,SqL.of R1.lst,atI_nat (j:=k) (v:=.ref a) (by rw [List.getElem?_map,ha];rfl),au_fld (m:=(f k).mb) (j:=z) T.fd_Node_made_bytes hoa1 rfl rfl (fun Rr r=>⟨_,rfl,r⟩) fun H2 h2 k2=>?_⟩⟩
  have R2:=R1.num (n:={ f k with mp:=(f k).mp+1,mb:=(f k).mb+z }) ha h2 k2
  have R3:WaysAt A H2 p nl sd as s (fun j=>{ f j with mp:=(f j).mp+(if j=k then 1 else 0),mb:=(f j).mb+(if j=k then z else 0) }):=R2.eqv fun j _=>by
   by_cases e:j=k
   ·subst e;simp
   ·simp [e]
  have e2:∀ x,H x≠none→x∉as→H2 x=H x:=fun x hx hn=>by rw [k2 x (fun e=>hn (by rw [e];exact hna ha)),k1 x (fun e=>hn (by rw [e];exact hna ha))]
  have s2:∀ x,H x≠none→H2 x≠none:=fun x hx=>by
   by_cases e:x=a
   ·rw [e];exact ob_some h2
   ·rw [k2 x e,k1 x e];exact hx
  refine ⟨_,rfl,rd_meth R3.ob (by decide +kernel) ⟨_,rfl,p,nl,sd,as,s,_,k,rfl,R3,W,hk,fun l H3 hl h3 e3=>⟨l,rfl,⟨_,SqL.of h3⟩,?_⟩⟩⟩
  have hl0:H l=none:=by
   cases e:H l with
   | none=>rfl
   | some o=>exact absurd hl (s2 l (by rw [e];simp))
  have R4:=R3.kept e3
  have hlm:l∉as:=fun hm=>by
   obtain ⟨j,hj⟩:=List.mem_iff_getElem?.mp hm
   exact absurd hl (ob_some (R3.obs j l hj))
  refine for_list (xs:=(chain s k).map fun j=>V.ref (as.getD j 0)) (fun i σ H'=>∃ v:Option V,σ=[some (.ref p),some (.int k),some (.int z),v]∧H' l=H3 l∧WaysAt A H' p nl sd as s (fun j=>{ f j with mp:=(f j).mp+(if j=k then 1 else 0),mb:=(f j).mb+(if j=k then z else 0),am:=(f j).am+if j∈(chain s k).take i then z else 0 })∧∀ x,H x≠none→x∉as→H' x=H x) ?_ ?_ ?_ ?_
  ·refine ⟨none,rfl,rfl,R4.eqv fun j _=>by simp,fun x hx hn=>?_⟩
   rw [e3 x (s2 x hx),e2 x hx hn]
  ·rintro i σ H' _ ⟨v,_,h,_⟩
   exact SqL.of (h.trans h3)
  ·rintro i x σ H' hx ⟨v,rfl,q1,R5,q2⟩
   rw [List.getElem?_map] at hx
   obtain ⟨j,hj,rfl⟩:=Option.map_eq_some_iff.mp hx
   have hjl:j<s.nodes.length:=chain_lt W hk (List.mem_of_getElem? hj)
   obtain ⟨b,hb,gb,hob⟩:=R5.get hjl
   rw [gb]
   have hnot:j∉(chain s k).take i:=fun hm=>by
    obtain ⟨i',hi'⟩:=List.mem_iff_getElem?.mp hm
    have hlt:i'<i:=by have:=(List.getElem?_eq_some_iff.mp hi').1;rw [List.length_take] at this;omega
    rw [List.getElem?_take_of_lt hlt] at hi'
    have:=nd_ix (chain_nodup W hk) hi' hj
    omega
   refine ⟨_,rfl,au_fld (m:=(f j).am) (j:=z) T.fd_Node_all_made_bytes hob rfl (by show some (V.int ((f j).am+if j∈(chain s k).take i then z else 0))=_;rw [if_neg hnot,Int.add_zero]) (fun Rr r=>⟨_,rfl,r⟩) fun H6 h6 k6=>?_⟩
   refine ⟨_,rfl,?_,?_,fun x hx hn=>?_⟩
   ·rw [k6 l (fun e=>hlm (by rw [e];exact hna hb)),q1]
   ·refine (R5.num (n:={ f j with mp:=(f j).mp+(if j=k then 1 else 0),mb:=(f j).mb+(if j=k then z else 0),am:=(f j).am+z }) hb h6 k6).eqv fun q _=>?_
    have htk:(chain s k).take (i+1)=(chain s k).take i++[j]:=by rw [List.take_add_one,hj];rfl
    by_cases e:q=j
    ·subst e
     rw [if_pos rfl,htk];simp
    ·rw [if_neg e,htk];simp [e]
   ·rw [k6 x (fun e=>hn (by rw [e];exact hna hb)),q2 x hx hn]
  ·rintro σ H' ⟨v,rfl,q1,R5,q2⟩
   rw [List.length_map,List.take_length] at R5
   refine kk H' (R5.eqv fun j hj=>?_) q2
   by_cases e:under s j k=true
   ·rw [if_pos ((mem_chain W hj hk).mpr e),if_pos e]
   ·rw [if_neg (fun h=>e ((mem_chain W hj hk).mp h)),if_neg e]
def sp_Ways_count_live (A:Adr):Sp:=fun vs H Q _=>∃ (p nl sd:Addr) (as:List Addr) (s:State) (f:Nat→Nm) (k:Nat) (dp db:Int),vs=[.ref p,.int k,.int dp,.int db]∧WaysAt A H p nl sd as s f∧Wf s∧k<s.nodes.length ∧
 ∀ H':Hp,WaysAt A H' p nl sd as s (fun j=>{ f j with lp:=(f j).lp+(if j=k then dp else 0),lb:=(f j).lb+(if j=k then db else 0),pk:=if j=k then max (f j).pk ((f j).lb+db) else (f j).pk,ap:=(f j).ap+(if under s j k then dp else 0),al:=(f j).al+if under s j k then db else 0 })→(∀ x,H x≠none→x∉as→H' x=H x)→Q .non H'
theorem sc_Ways_count_live:FnScope ["self","k","more_pieces","more_bytes","own","node"] ["self","k","more_pieces","more_bytes"] (defScope s_Ways_count_live):=⟨rfl,rfl,rfl,by decide +kernel,rfl,by decide +kernel,by decide +kernel⟩
theorem ok_Ways_count_live (T:Txt K mg A):FnOk P w K mg base CX0 2 A.f_Ways_count_live A.d_Ways_count_live ["self","k","more_pieces","more_bytes"] (sp_Ways_count_live A):=by
 refine (T.m_Ways_count_live.fn).ok sc_Ways_count_live (fun vs H Q E h=>?_) (fun cdv AA outer s H vs Q E hr h=>?_)
 ·obtain ⟨p,nl,sd,as,s,f,k,dp,db,rfl,_⟩:=h
  rfl
 ·obtain ⟨p,nl,sd,as,s,f,k,dp,db,rfl,R,W,hk,kk⟩:=h
  refine ⟨_,(pss_cons (ps_set (i:=4) sc_Ways_count_live.nd rfl (Or.inl rfl) (pe_ix ix_list (pe_fld (pv 0) rfl) (pv 1) (fun _ _=>rfl)))
   (pss_cons (ps_fldaug (pv 4) (pv 2) in_add)
   (pss_cons (ps_fldaug (pv 4) (pv 3) in_add)
   (pss_cons (ps_fld (pv 4) (pe_callB (call_max2 rfl) (by rfl) T.b_max boot_max (pa_cons (pe_fld (pv 4) rfl) (pa_cons (pe_fld (pv 4) rfl) pa_nil))) rfl)
   (pss_one (ps_for PassesOwn.never rfl (pi_list (pe_meth (pv 0) T.cl_Ways T.m_Ways_nodes_up.me (ok_Ways_nodes_up T) (hr.mono (by decide)) T.m_Ways_nodes_up.bi .nil pass0 (pa_cons (pv 1) pa_nil))) (pg_name (i:=5) sc_Ways_count_live.nd rfl (Or.inl rfl))
    (pss_cons (ps_fldaug (pv 5) (pv 2) in_add)
    (pss_one (ps_fldaug (pv 5) (pv 3) in_add))))))))),?_⟩
  obtain ⟨a,ha,ga,hoa⟩:=R.get hk
  have hna:∀ {j b},as[j]?=some b→b∈as:=fun h=>List.mem_of_getElem? h
  refine ⟨_,rfl,rd_fld T.fd_Ways_nodes R.ob rfl ⟨_,rfl,nl,_,_,_,rfl,rfl,SqL.of R.lst,atI_nat (j:=k) (v:=.ref a) (by rw [List.getElem?_map,ha];rfl),?_⟩⟩
  refine ⟨_,rfl,au_fld (m:=(f k).lp) (j:=dp) T.fd_Node_live_pieces hoa rfl rfl (fun Rr r=>⟨_,rfl,r⟩) fun H1 h1 k1=>?_⟩
  refine ⟨_,rfl,au_fld (m:=(f k).lb) (j:=db) T.fd_Node_live_bytes h1 rfl rfl (fun Rr r=>⟨_,rfl,r⟩) fun H2 h2 k2=>?_⟩
  refine ⟨_,rfl,rd_fld T.fd_Node_peak_bytes h2 rfl ⟨_,rfl,rd_fld T.fd_Node_live_bytes h2 rfl ⟨_,_,rfl,_,rfl,wr_fld T.fd_Node_peak_bytes h2 rfl fun H3 h3 k3=>?_⟩⟩⟩
  have kk3:∀ b,b≠a→H3 b=H b:=fun b hb=>by rw [k3 b hb,k2 b hb,k1 b hb]
  have emax:(if (f k).lb+db > (f k).pk then (f k).lb+db else (f k).pk)=max (f k).pk ((f k).lb+db):=by split<;>omega
  have R2:=R.num (n:={ f k with lp:=(f k).lp+dp,lb:=(f k).lb+db,pk:=max (f k).pk ((f k).lb+db) }) ha (by rw [← emax];exact h3) kk3
  have R3:WaysAt A H3 p nl sd as s (fun j=>{ f j with lp:=(f j).lp+(if j=k then dp else 0),lb:=(f j).lb+(if j=k then db else 0),pk:=if j=k then max (f j).pk ((f j).lb+db) else (f j).pk }):=R2.eqv fun j _=>by
   by_cases e:j=k
   ·subst e;simp
   ·simp [e]
  have e2:∀ x,H x≠none→x∉as→H3 x=H x:=fun x hx hn=>kk3 x (fun e=>hn (by rw [e];exact hna ha))
  have s2:∀ x,H x≠none→H3 x≠none:=fun x hx=>by
   by_cases e:x=a
   ·rw [e];exact ob_some h3
   ·rw [kk3 x e];exact hx
  refine ⟨_,rfl,rd_meth R3.ob (by decide +kernel) ⟨_,rfl,p,nl,sd,as,s,_,k,rfl,R3,W,hk,fun l H4 hl h4 e4=>⟨l,rfl,⟨_,SqL.of h4⟩,?_⟩⟩⟩
  have R4:=R3.kept e4
  have hlm:l∉as:=fun hm=>by
   obtain ⟨j,hj⟩:=List.mem_iff_getElem?.mp hm
   exact absurd hl (ob_some (R3.obs j l hj))
  refine for_list (xs:=(chain s k).map fun j=>V.ref (as.getD j 0)) (fun i σ H'=>∃ v:Option V,σ=[some (.ref p),some (.int k),some (.int dp),some (.int db),some (.ref a),v]∧H' l=H4 l∧WaysAt A H' p nl sd as s (fun j=>{ f j with lp:=(f j).lp+(if j=k then dp else 0),lb:=(f j).lb+(if j=k then db else 0),pk:=if j=k then max (f j).pk ((f j).lb+db) else (f j).pk,ap:=(f j).ap+(if j∈(chain s k).take i then dp else 0),al:=(f j).al+if j∈(chain s k).take i then db else 0 })∧∀ x,H x≠none→x∉as→H' x=H x) ?_ ?_ ?_ ?_
  ·refine ⟨none,rfl,rfl,R4.eqv fun j _=>by simp,fun x hx hn=>?_⟩
   rw [e4 x (s2 x hx),e2 x hx hn]
  ·rintro i σ H' _ ⟨v,_,h,_⟩
   exact SqL.of (h.trans h4)
  ·rintro i x σ H' hx ⟨v,rfl,q1,R5,q2⟩
   rw [List.getElem?_map] at hx
   obtain ⟨j,hj,rfl⟩:=Option.map_eq_some_iff.mp hx
   have hjl:j<s.nodes.length:=chain_lt W hk (List.mem_of_getElem? hj)
   obtain ⟨b,hb,gb,hob⟩:=R5.get hjl
   rw [gb]
   have hnot:j∉(chain s k).take i:=fun hm=>by
    obtain ⟨i',hi'⟩:=List.mem_iff_getElem?.mp hm
    have hlt:i'<i:=by have:=(List.getElem?_eq_some_iff.mp hi').1;rw [List.length_take] at this;omega
    rw [List.getElem?_take_of_lt hlt] at hi'
    have:=nd_ix (chain_nodup W hk) hi' hj
    omega
   refine ⟨_,rfl,au_fld (m:=(f j).ap) (j:=dp) T.fd_Node_all_live_pieces hob rfl (by show some (V.int ((f j).ap+if j∈(chain s k).take i then dp else 0))=_;rw [if_neg hnot,Int.add_zero]) (fun Rr r=>⟨_,rfl,r⟩) fun H6 h6 k6=>?_⟩
   refine ⟨_,rfl,au_fld (m:=(f j).al) (j:=db) T.fd_Node_all_live_bytes h6 rfl (by show some (V.int ((f j).al+if j∈(chain s k).take i then db else 0))=_;rw [if_neg hnot,Int.add_zero]) (fun Rr r=>⟨_,rfl,r⟩) fun H7 h7 k7=>?_⟩
   have k67:∀ c,c≠b→H7 c=H' c:=fun c hc=>by rw [k7 c hc,k6 c hc]
   refine ⟨_,rfl,?_,?_,fun x hx hn=>?_⟩
   ·rw [k67 l (fun e=>hlm (by rw [e];exact hna hb)),q1]
   ·refine (R5.num (n:={ f j with lp:=(f j).lp+(if j=k then dp else 0),lb:=(f j).lb+(if j=k then db else 0),pk:=if j=k then max (f j).pk ((f j).lb+db) else (f j).pk,ap:=(f j).ap+dp,al:=(f j).al+db }) hb h7 k67).eqv fun q _=>?_
    have htk:(chain s k).take (i+1)=(chain s k).take i++[j]:=by rw [List.take_add_one,hj];rfl
    by_cases e:q=j
    ·subst e
     rw [if_pos rfl,htk];simp
    ·rw [if_neg e,htk];simp [e]
   ·rw [k67 x (fun e=>hn (by rw [e];exact hna hb)),q2 x hx hn]
  ·rintro σ H' ⟨v,rfl,q1,R5,q2⟩
   rw [List.length_map,List.take_length] at R5
   refine kk H' (R5.eqv fun j hj=>?_) q2
   by_cases e:under s j k=true
   ·rw [if_pos ((mem_chain W hj hk).mpr e),if_pos ((mem_chain W hj hk).mpr e),if_pos e,if_pos e]
   ·rw [if_neg (fun h=>e ((mem_chain W hj hk).mp h)),if_neg (fun h=>e ((mem_chain W hj hk).mp h)),if_neg e,if_neg e]
end
theorem boot_sorted:bootBuiltins "sorted"=some (.builtin "sorted"):=by decide +kernel
theorem boot_str:bootBuiltins "str"=some (.type "str"):=by decide +kernel
theorem boot_list:bootBuiltins "list"=some (.type "list"):=by decide +kernel
theorem boot_sum:bootBuiltins "sum"=some (.builtin "sum"):=by decide +kernel
theorem boot_ord:bootBuiltins "ord"=some (.builtin "ord"):=by decide +kernel
theorem boot_all:bootBuiltins "all"=some (.builtin "all"):=by decide +kernel
def nmBy (n:Nm) (b:Nat):Int:=if b=0 then n.lb else if b=1 then n.mb else if b=2 then n.pk else n.al
def sumRows (f:Nat→Nm) (b n:Nat):List (List Int):=((List.range n).filter fun k=>decide (0<nmBy (f k) b)).map fun (k:Nat)=>[(k:Int),nmBy (f k) b]
theorem sumRows_len (f:Nat→Nm) (b n:Nat):(sumRows f b n).length≤n:=by
 unfold sumRows
 rw [List.length_map]
 have:=List.length_filter_le (fun k=>decide (0<nmBy (f k) b)) (List.range n)
 rw [List.length_range] at this
 exact this
section
variable {P:Program}{w:World}{K:PySem.W.Frag}{mg:Str→Option Value}{base:Heap}{A:Adr}
def sp_sum_of (A:Adr):Sp:=fun vs H Q _=>∃ (a:Addr) (s:State) (k:Nat) (n:Nm) (b:Nat),vs=[.ref a,.int b]∧Ob H a A.c_Node K_Node (ndV s k n)∧Q (.int (nmBy n b)) H
theorem sc_sum_of:FnScope ["node","by"] ["node","by"] (defScope s_sum_of):=⟨rfl,rfl,rfl,by decide +kernel,rfl,by decide +kernel,by decide +kernel⟩
theorem ok_sum_of (T:Txt K mg A):FnOk P w K mg base CX0 1 A.f_sum_of A.d_sum_of ["node","by"] (sp_sum_of A):=by
 refine (T.u_sum_of.fn).ok sc_sum_of (fun vs H Q E h=>?_) (fun cdv AA outer s H vs Q E hr h=>?_)
 ·obtain ⟨a,s,k,n,b,rfl,_⟩:=h
  rfl
 ·obtain ⟨a,s,k,n,b,rfl,ho,kk⟩:=h
  refine ⟨_,(pss_cons (ps_if (pt_cmpR op_eq (pv 1) (pe_gint T.g_OWN_LIVE) (nomark _))
    (pss_one (ps_ret (pe_fld (pv 0) rfl)))
    pss_nil)
   (pss_cons (ps_if (pt_cmpR op_eq (pv 1) (pe_gint T.g_OWN_MADE) (nomark _))
    (pss_one (ps_ret (pe_fld (pv 0) rfl)))
    pss_nil)
   (pss_cons (ps_if (pt_cmpR op_eq (pv 1) (pe_gint T.g_OWN_PEAK) (nomark _))
    (pss_one (ps_ret (pe_fld (pv 0) rfl)))
    pss_nil)
   (pss_one (ps_ret (pe_fld (pv 0) rfl)))))),?_⟩
  unfold nmBy at kk
  refine ⟨_,rfl,rfl,_,rfl,?_⟩
  rw [dec_int]
  refine ite2 (fun c=>?_) (fun c=>?_)
  ·have c:(b:Int)=0:=beq_iff_eq.mp c
   rw [if_pos (by omega)] at kk
   exact ⟨_,rfl,rd_fld T.fd_Node_live_bytes ho rfl kk⟩
  ·have c:¬ (b:Int)=0:=fun q=>c (beq_iff_eq.mpr q)
   rw [if_neg (by omega)] at kk
   refine ⟨_,rfl,rfl,_,rfl,?_⟩
   rw [dec_int]
   refine ite2 (fun c=>?_) (fun c=>?_)
   ·have c:(b:Int)=1:=beq_iff_eq.mp c
    rw [if_pos (by omega)] at kk
    exact ⟨_,rfl,rd_fld T.fd_Node_made_bytes ho rfl kk⟩
   ·have c:¬ (b:Int)=1:=fun q=>c (beq_iff_eq.mpr q)
    rw [if_neg (by omega)] at kk
    refine ⟨_,rfl,rfl,_,rfl,?_⟩
    rw [dec_int]
    refine ite2 (fun c=>?_) (fun c=>?_)
    ·have c:(b:Int)=2:=beq_iff_eq.mp c
     rw [if_pos (by omega)] at kk
     exact ⟨_,rfl,rd_fld T.fd_Node_peak_bytes ho rfl kk⟩
    ·have c:¬ (b:Int)=2:=fun q=>c (beq_iff_eq.mpr q)
     rw [if_neg (by omega)] at kk
     exact ⟨_,rfl,rd_fld T.fd_Node_all_live_bytes ho rfl kk⟩
def sp_Ways_sums (A:Adr):Sp:=fun vs H Q _=>∃ (p nl sd:Addr) (as:List Addr) (s:State) (f:Nat→Nm) (b:Nat),vs=[.ref p,.int b]∧WaysAt A H p nl sd as s f∧Wf s ∧
 ∀ (l:Addr) (H':Hp),H l=none→Tups H' l (sumRows f b s.nodes.length)→(∀ x,H x≠none→H' x=H x)→Q (.ref l) H'
theorem sc_Ways_sums:FnScope ["self","by","found","k","node","much"] ["self","by"] (defScope s_Ways_sums):=⟨rfl,rfl,rfl,by decide +kernel,rfl,by decide +kernel,by decide +kernel⟩
theorem ok_Ways_sums (T:Txt K mg A):FnOk P w K mg base CX0 2 A.f_Ways_sums A.d_Ways_sums ["self","by"] (sp_Ways_sums A):=by
 refine (T.m_Ways_sums.fn).ok sc_Ways_sums (fun vs H Q E h=>?_) (fun cdv AA outer s H vs Q E hr h=>?_)
 ·obtain ⟨p,nl,sd,as,s,f,b,rfl,_⟩:=h
  rfl
 ·obtain ⟨p,nl,sd,as,s,f,b,rfl,R,W,kk⟩:=h
  refine ⟨_,(pss_cons (ps_set (i:=2) sc_Ways_sums.nd rfl (Or.inl rfl) (pe_lst pa_nil))
   (pss_cons (ps_for PassesOwn.never rfl (pi_enum (by rfl) T.b_enumerate (pa_cons (pe_fld (pv 0) rfl) pa_nil)) (pg_tup rfl (pgs_cons (pg_name (i:=3) sc_Ways_sums.nd rfl (Or.inl rfl)) (pgs_cons (pg_name (i:=4) sc_Ways_sums.nd rfl (Or.inl rfl)) pgs_nil)))
    (pss_cons (ps_set (i:=5) sc_Ways_sums.nd rfl (Or.inl rfl) (pe_call (ok_sum_of T) (hr.mono (by decide)) (by rfl) T.u_sum_of.mg T.u_sum_of.kp T.u_sum_of.bi .nil pass0 (pa_cons (pv 4) (pa_cons (pv 1) pa_nil))))
    (pss_one (ps_if (pt_cmpR op_gt (pv 5) pe_int (nomark _))
     (pss_one (ps_expr (pe_bm PySem.F.plainAttrs_list PySem.F.slot_list_append PySem.F.type_list_append mt_append (pv 2) (pa_cons (pe_tup (pa_cons (pv 3) (pa_cons (pv 5) pa_nil))) pa_nil))))
     pss_nil))))
   (pss_one (ps_ret (pv 2))))),?_⟩
  have hsl:=PySem.sizeLine_eq
  have few:=W.few
  refine ⟨by decide,fun l hl=>?_⟩
  have e0:∀ x,H x≠none→upd H l (.lst []) x=H x:=fun x hx=>upd_ne fun e=>hx (by rw [e];exact hl)
  have R0:=R.kept e0
  refine ⟨_,rfl,rd_fld T.fd_Ways_nodes R0.ob rfl ⟨nl,_,rfl,SqL.of R0.lst,?_⟩⟩
  refine for_enum (xs:=as.map V.ref) (fun i σ H'=>∃ a1 a2 a3:Option V,σ=[some (.ref p),some (.int b),some (.ref l),a1,a2,a3]∧Tups H' l (sumRows f b i)∧∀ x,H x≠none→H' x=H x) ?_ ?_ ?_ ?_
  ·exact ⟨none,none,none,rfl,Tups.nil upd_same,e0⟩
  ·rintro i σ H' _ ⟨a1,a2,a3,rfl,_,q⟩
   exact SqL.of (R.kept q).lst
  ·rintro i x σ H' t hx ⟨a1,a2,a3,rfl,ht,q⟩ hT
   rw [List.getElem?_map] at hx
   obtain ⟨a,ha,rfl⟩:=Option.map_eq_some_iff.mp hx
   have hi:i<s.nodes.length:=by rw [← R.len];exact (List.getElem?_eq_some_iff.mp ha).1
   have e1:∀ x,H' x≠none→upd H' t (.tup [.int i,.ref a]) x=H' x:=fun x hx=>upd_ne fun e=>hx (by rw [e];exact hT)
   have q1:∀ x,H x≠none→upd H' t (.tup [.int i,.ref a]) x=H x:=fun x hx=>by rw [e1 x (by rw [q x hx];exact hx),q x hx]
   have ho:=((R.kept q1).obs i a ha)
   have ht1:=ht.keep e1
   refine ⟨t,_,rfl,.inl (.inl upd_same),rfl,_,_,rfl,_,_,rfl,rfl,?_⟩
   refine ⟨_,rfl,_,rfl,a,s,i,f i,b,rfl,ho,?_⟩
   refine ⟨_,rfl,_,_,rfl,rfl,_,rfl,?_⟩
   refine ite2 (fun c=>?_) (fun c=>?_)
   ·have c:0<nmBy (f i) b:=of_decide_eq_true c
    obtain ⟨xs,hxs,hlen⟩:=ht1.len
    have hln:=sumRows_len f b i
    refine ⟨_,rfl,.inl ⟨rfl,_,SqL.of hxs⟩,_,rfl,_,rfl,by show 2≤sizeLine;decide,fun t2 ht2=>?_⟩
    have nlt:l≠t2:=fun e=>by rw [← e,hxs] at ht2;cases ht2
    refine ⟨l,_,_,rfl,rfl,by rw [upd_ne nlt];exact hxs,by omega,_,_,_,rfl,?_,fun x hx=>?_⟩
    ·have e:sumRows f b (i+1)=sumRows f b i++[[(i:Int),nmBy (f i) b]]:=by
      unfold sumRows
      rw [filter_snoc,if_pos (decide_eq_true c)]
     rw [e]
     exact ht1.push hxs ht2 upd_same (by rw [upd_ne nlt.symm,upd_same];rfl) fun x hx n=>by rw [upd_ne n,upd_ne fun e=>hx (by rw [e];exact ht2)]
    ·have hq:=q1 x hx
     have n1:x≠l:=fun e=>hx (by rw [e];exact hl)
     have n2:x≠t2:=fun e=>hx (by rw [← hq,e];exact ht2)
     rw [upd_ne n1,upd_ne n2,hq]
   ·have c:¬ 0<nmBy (f i) b:=fun z=>c (decide_eq_true z)
    refine ⟨_,_,_,rfl,?_,q1⟩
    have e:sumRows f b (i+1)=sumRows f b i:=by
     unfold sumRows
     rw [filter_snoc,if_neg (by rw [decide_eq_true_eq];exact c),List.append_nil]
    rw [e];exact ht1
  ·rintro σ H' ⟨a1,a2,a3,rfl,ht,q⟩
   rw [List.length_map,R.len] at ht
   exact ⟨_,rfl,kk l H' hl ht q⟩
def liveRows (f:Nat→Nm) (n:Nat):List (List Int):=(List.range n).map fun k=>[(f k).lp,(f k).lb]
def sp_Ways_live_sums (A:Adr):Sp:=fun vs H Q _=>∃ (p nl sd:Addr) (as:List Addr) (s:State) (f:Nat→Nm),vs=[.ref p]∧WaysAt A H p nl sd as s f∧Wf s ∧
 ∀ (l:Addr) (H':Hp),H l=none→Tups H' l (liveRows f s.nodes.length)→(∀ x,H x≠none→H' x=H x)→Q (.ref l) H'
theorem sc_Ways_live_sums:FnScope ["self","node"] ["self"] (defScope s_Ways_live_sums):=⟨rfl,rfl,rfl,by decide +kernel,rfl,by decide +kernel,by decide +kernel⟩
theorem ok_Ways_live_sums (T:Txt K mg A):FnOk P w K mg base CX0 1 A.f_Ways_live_sums A.d_Ways_live_sums ["self"] (sp_Ways_live_sums A):=by
 refine (T.m_Ways_live_sums.fn).ok sc_Ways_live_sums (fun vs H Q E h=>?_) (fun cdv AA outer s H vs Q E hr h=>?_)
 ·obtain ⟨p,nl,sd,as,s,f,rfl,_⟩:=h
  rfl
 ·obtain ⟨p,nl,sd,as,s,f,rfl,R,W,kk⟩:=h
  refine ⟨_,(pss_one (ps_ret (pe_lc (own:=[("node",1)]) (g:=(gName 1)) (te:=(tTup (tCons (tFld K (tVar 1) "live_pieces") (tCons (tFld K (tVar 1) "live_bytes") tNil)))) rfl sc_Ways_live_sums.nd (pi_list (pe_fld (pv 0) rfl)) ⟨rfl,by decide +kernel,(show ∀ p∈([("node",1)]:List (Str × Nat)),(["self","node"]:List Str)[p.2]?=some p.1 by decide +kernel),(show ∀ y∈(_:List (Str × NameKind)),y.2=NameKind.free→(defScope s_Ways_live_sums).names.lookup y.1=some NameKind.cell∨(defScope s_Ways_live_sums).names.lookup y.1=some NameKind.free by decide +kernel),(show ∀ y∈(_:List (Str × NameKind)),y.2=NameKind.local∨y.2=NameKind.cell→y.1∈([("node",1)]:List (Str × Nat)).map (·.1)∨y.1∉(["self","node"]:List Str) by decide +kernel)⟩ (fun _ _ _ _ _=>(pg_name (i:=1) sc_Ways_live_sums.nd rfl (Or.inl rfl))) (fun _ _ _ _ _=>pts_nil) (fun _ _ _ _ _=>(pe_tup (pa_cons (pe_fld (pv 1) rfl) (pa_cons (pe_fld (pv 1) rfl) pa_nil))))))),?_⟩
  have hsl:=PySem.sizeLine_eq
  have few:=W.few
  refine ⟨_,rfl,rd_fld T.fd_Ways_nodes R.ob rfl ⟨nl,rfl,⟨_,SqL.of R.lst⟩,fun D hD=>?_⟩⟩
  have e0:∀ x,H x≠none→upd H D (.lst []) x=H x:=fun x hx=>upd_ne fun e=>hx (by rw [e];exact hD)
  refine lc_list (xs:=as.map V.ref) (fun i H'=>Tups H' D (liveRows f i)∧∀ x,H x≠none→H' x=H x) ⟨Tups.nil upd_same,e0⟩ ?_ ?_ ?_
  ·rintro i H' _ ⟨_,q⟩
   exact SqL.of (R.kept q).lst
  ·rintro i x H' hx ⟨ht,q⟩
   rw [List.getElem?_map] at hx
   obtain ⟨a,ha,rfl⟩:=Option.map_eq_some_iff.mp hx
   have hi:i<s.nodes.length:=by rw [← R.len];exact (List.getElem?_eq_some_iff.mp ha).1
   have ho:=((R.kept q).obs i a ha)
   obtain ⟨xs,hxs,hlen⟩:=ht.len
   have hlen':xs.length=i:=by rw [hlen];unfold liveRows;simp
   refine ⟨rfl,_,rfl,rd_fld T.fd_Node_live_pieces ho rfl ⟨_,rfl,rd_fld T.fd_Node_live_bytes ho rfl ⟨by show 2≤sizeLine;decide,fun t ht2=>?_⟩⟩⟩
   have nlt:D≠t:=fun e=>by rw [← e,hxs] at ht2;cases ht2
   refine ⟨xs,by rw [upd_ne nlt];exact hxs,by omega,?_,fun x hx=>?_⟩
   ·have e:liveRows f (i+1)=liveRows f i++[[(f i).lp,(f i).lb]]:=by unfold liveRows;rw [List.range_succ,List.map_append];rfl
    rw [e]
    exact ht.push hxs ht2 upd_same (by rw [upd_ne nlt.symm,upd_same];rfl) fun x hx n=>by rw [upd_ne n,upd_ne fun e=>hx (by rw [e];exact ht2)]
   ·have hq:=q x hx
    have n1:x≠D:=fun e=>hx (by rw [e];exact hD)
    have n2:x≠t:=fun e=>hx (by rw [← hq,e];exact ht2)
    rw [upd_ne n1,upd_ne n2,hq]
  ·rintro H' ⟨ht,q⟩
   rw [List.length_map,R.len] at ht
   exact kk D H' hD ht q
def chgP (f:Nat→Nm) (o:List (List Int)) (k:Nat):Int:=(f k).lp - (o.getD k [0,0]).getD 0 0
def chgB (f:Nat→Nm) (o:List (List Int)) (k:Nat):Int:=(f k).lb - (o.getD k [0,0]).getD 1 0
def chgRows (f:Nat→Nm) (o:List (List Int)) (n:Nat):List (List Int):=((List.range n).filter fun k=>decide (chgP f o k≠0∨chgB f o k≠0)).map fun (k:Nat)=>[(k:Int),chgP f o k,chgB f o k]
theorem chgRows_len (f:Nat→Nm) (o:List (List Int)) (n:Nat):(chgRows f o n).length≤n:=by
 unfold chgRows
 rw [List.length_map]
 have:=List.length_filter_le (fun k=>decide (chgP f o k≠0∨chgB f o k≠0)) (List.range n)
 rw [List.length_range] at this
 exact this
def sp_Ways_changes (A:Adr):Sp:=fun vs H Q _=>∃ (p nl sd bl:Addr) (as:List Addr) (s:State) (f:Nat→Nm) (o:List (List Int)),vs=[.ref p,.ref bl]∧WaysAt A H p nl sd as s f∧Wf s∧Tups H bl o∧o.length≤s.nodes.length∧(∀ r∈o,∃ x y,r=[x,y]) ∧
 ∀ (l:Addr) (H':Hp),H l=none→Tups H' l (chgRows f o s.nodes.length)→(∀ x,H x≠none→H' x=H x)→Q (.ref l) H'
theorem sc_Ways_changes:FnScope ["self","before","then","found","k","node","more_pieces","more_bytes"] ["self","before"] (defScope s_Ways_changes):=⟨rfl,rfl,rfl,by decide +kernel,rfl,by decide +kernel,by decide +kernel⟩
theorem ok_Ways_changes (T:Txt K mg A):FnOk P w K mg base CX0 1 A.f_Ways_changes A.d_Ways_changes ["self","before"] (sp_Ways_changes A):=by
 refine (T.m_Ways_changes.fn).ok sc_Ways_changes (fun vs H Q E h=>?_) (fun cdv AA outer s H vs Q E hr h=>?_)
 ·obtain ⟨p,nl,sd,bl,as,s,f,o,rfl,_⟩:=h
  rfl
 ·obtain ⟨p,nl,sd,bl,as,s,f,o,rfl,R,W,hb,hol,ho2,kk⟩:=h
  refine ⟨_,(pss_cons (ps_set (i:=2) sc_Ways_changes.nd rfl (Or.inl rfl) (pe_op op_cat (pv 1) (pe_op op_rep (pe_lst (pa_cons (pe_tup (pa_cons pe_int (pa_cons pe_int pa_nil))) pa_nil)) (pe_op op_sub (pe_callB call_len_seq (by rfl) T.b_len PySem.boot_len (pa_cons (pe_fld (pv 0) rfl) pa_nil)) (pe_callB call_len_seq (by rfl) T.b_len PySem.boot_len (pa_cons (pv 1) pa_nil))))))
   (pss_cons (ps_set (i:=3) sc_Ways_changes.nd rfl (Or.inl rfl) (pe_lst pa_nil))
   (pss_cons (ps_for PassesOwn.never rfl (pi_enum (by rfl) T.b_enumerate (pa_cons (pe_fld (pv 0) rfl) pa_nil)) (pg_tup rfl (pgs_cons (pg_name (i:=4) sc_Ways_changes.nd rfl (Or.inl rfl)) (pgs_cons (pg_name (i:=5) sc_Ways_changes.nd rfl (Or.inl rfl)) pgs_nil)))
    (pss_cons (ps_set (i:=6) sc_Ways_changes.nd rfl (Or.inl rfl) (pe_op op_sub (pe_fld (pv 5) rfl) (pe_ix ix_tup (pe_ix ix_list (pv 2) (pv 4) (fun _ _=>rfl)) pe_int (fun _ _=>rfl))))
    (pss_cons (ps_set (i:=7) sc_Ways_changes.nd rfl (Or.inl rfl) (pe_op op_sub (pe_fld (pv 5) rfl) (pe_ix ix_tup (pe_ix ix_list (pv 2) (pv 4) (fun _ _=>rfl)) pe_int (fun _ _=>rfl))))
    (pss_one (ps_if (pw_or (pt_cmpR op_ne (pv 6) pe_int (nomark _)) (pw_or1 (pt_cmpR op_ne (pv 7) pe_int (nomark _)))).pt
     (pss_one (ps_expr (pe_bm PySem.F.plainAttrs_list PySem.F.slot_list_append PySem.F.type_list_append mt_append (pv 3) (pa_cons (pe_tup (pa_cons (pv 4) (pa_cons (pv 6) (pa_cons (pv 7) pa_nil)))) pa_nil))))
     pss_nil)))))
   (pss_one (ps_ret (pv 3)))))),?_⟩
  have hsl:=PySem.sizeLine_eq
  have few:=W.few
  obtain ⟨bx,hbx,hbl⟩:=hb.len
  refine ⟨_,rfl,by show 2≤sizeLine;decide,fun t0 ht0=>⟨by show 1≤sizeLine;decide,fun l0 hl0=>?_⟩⟩
  generalize hH1:upd H t0 (.tup [.int 0,.int 0])=H1 at hl0 ⊢
  have e1:∀ x,H x≠none→H1 x=H x:=fun x hx=>by rw [← hH1];exact upd_ne fun e=>hx (by rw [e];exact ht0)
  have t1:H1 t0=some (.tup [.int 0,.int 0]):=by rw [← hH1];exact upd_same
  generalize hH2:upd H1 l0 (.lst [.ref t0])=H2
  have e2:∀ x,H1 x≠none→H2 x=H1 x:=fun x hx=>by rw [← hH2];exact upd_ne fun e=>hx (by rw [e];exact hl0)
  have l2:H2 l0=some (.lst [.ref t0]):=by rw [← hH2];exact upd_same
  have t2:H2 t0=some (.tup [.int 0,.int 0]):=by rw [e2 t0 (by rw [t1];simp)];exact t1
  have e12:∀ x,H x≠none→H2 x=H x:=fun x hx=>by rw [e2 x (by rw [e1 x hx];exact hx),e1 x hx]
  have R2:=R.kept e12
  have hb2:=hb.keep e12
  have hbx2:H2 bl=some (.lst bx):=by rw [e12 bl (by rw [hbx];simp)];exact hbx
  have hdk:((s.nodes.length:Int) - (o.length:Int))=((s.nodes.length - o.length:Nat):Int):=by omega
  refine ⟨_,rfl,rd_fld T.fd_Ways_nodes R2.ob rfl ⟨nl,_,rfl,.inl (SqL.of R2.lst),_,rfl,bl,_,rfl,.inl (SqL.of hbx2),_,_,rfl,rfl,l0,((s.nodes.length - o.length:Nat):Int),_,rfl,?_,l2,by omega,by omega,by rw [Int.toNat_natCast];show 1 * _≤_;omega,fun l3 hl3=>?_⟩⟩
  ·show V.int (((as.map V.ref).length:Int) - (bx.length:Int))=_
   rw [List.length_map,R.len,hbl,hdk]
  rw [Int.toNat_natCast]
  generalize hH3:upd H2 l3 (.lst (List.replicate (s.nodes.length - o.length) [V.ref t0]).flatten)=H3
  have e3:∀ x,H2 x≠none→H3 x=H2 x:=fun x hx=>by rw [← hH3];exact upd_ne fun e=>hx (by rw [e];exact hl3)
  have l3':H3 l3=some (.lst (List.replicate (s.nodes.length - o.length) [V.ref t0]).flatten):=by rw [← hH3];exact upd_same
  have hbx3:H3 bl=some (.lst bx):=by rw [e3 bl (by rw [hbx2];simp)];exact hbx2
  have frep:∀ n:Nat,(List.replicate n [V.ref t0]).flatten=List.replicate n (V.ref t0):=fun n=>by
   induction n with
   | zero=>rfl
   | succ n ih=>rw [List.replicate_succ,List.flatten_cons,ih,List.replicate_succ];rfl
  rw [frep] at l3'
  refine ⟨bl,l3,_,_,rfl,rfl,hbx3,l3',by rw [List.length_replicate,hbl];omega,fun l4 hl4=>?_⟩
  generalize hH4:upd H3 l4 (.lst (bx++List.replicate (s.nodes.length - o.length) (V.ref t0)))=H4
  have e4:∀ x,H3 x≠none→H4 x=H3 x:=fun x hx=>by rw [← hH4];exact upd_ne fun e=>hx (by rw [e];exact hl4)
  have l4':H4 l4=some (.lst (bx++List.replicate (s.nodes.length - o.length) (V.ref t0))):=by rw [← hH4];exact upd_same
  have eT:∀ x,H2 x≠none→H4 x=H2 x:=fun x hx=>by rw [e4 x (by rw [e3 x hx];exact hx),e3 x hx]
  have eA:∀ x,H x≠none→H4 x=H x:=fun x hx=>by rw [eT x (by rw [e12 x hx];exact hx),e12 x hx]
  have t4:H4 t0=some (.tup [.int 0,.int 0]):=by rw [eT t0 (by rw [t2];simp)];exact t2
  have hthen:∀ i,i<s.nodes.length→∃ t x y,(bx++List.replicate (s.nodes.length - o.length) (V.ref t0))[i]?=some (.ref t)∧H4 t=some (.tup [.int x,.int y])∧x=(o.getD i [0,0]).getD 0 0∧y=(o.getD i [0,0]).getD 1 0:=fun i hi=>by
   by_cases hio:i<o.length
   ·have hr:o[i]?=some o[i]:=List.getElem?_eq_getElem hio
    obtain ⟨xs,t,h1,h2,h3⟩:=(hb.keep eA).get hr
    have:bx=xs:=by
     have hbx4:H4 bl=some (.lst bx):=by rw [eA bl (by rw [hbx];simp)];exact hbx
     rw [hbx4] at h1
     injection h1 with h1
     injection h1
    subst this
    obtain ⟨x,y,e⟩:=ho2 o[i] (List.getElem_mem hio)
    rw [e] at h3 hr
    refine ⟨t,x,y,by rw [List.getElem?_append_left (by rw [hbl];exact hio)];exact h2,h3,?_,?_⟩<;>simp [hr]
   ·refine ⟨t0,0,0,?_,t4,?_,?_⟩
    ·rw [List.getElem?_append_right (by omega),List.getElem?_replicate,if_pos (by omega)]
    ·simp [List.getElem?_eq_none (Nat.le_of_not_lt hio)]
    ·simp [List.getElem?_eq_none (Nat.le_of_not_lt hio)]
  refine ⟨by decide,fun l hl=>?_⟩
  generalize hH5:upd H4 l (.lst [])=H5
  have e5:∀ x,H4 x≠none→H5 x=H4 x:=fun x hx=>by rw [← hH5];exact upd_ne fun e=>hx (by rw [e];exact hl)
  have l5:H5 l=some (.lst []):=by rw [← hH5];exact upd_same
  have eB:∀ x,H x≠none→H5 x=H x:=fun x hx=>by rw [e5 x (by rw [eA x hx];exact hx),eA x hx]
  have hl0':H l=none:=by
   cases e:H l with
   | none=>rfl
   | some u=>rw [eA l (by rw [e];simp),e] at hl;cases hl
  have R5:=R.kept eB
  refine ⟨_,rfl,rd_fld T.fd_Ways_nodes R5.ob rfl ⟨nl,_,rfl,SqL.of R5.lst,?_⟩⟩
  refine for_enum (xs:=as.map V.ref) (fun i σ H'=>∃ a1 a2 a3 a4:Option V,σ=[some (.ref p),some (.ref bl),some (.ref l4),some (.ref l),a1,a2,a3,a4]∧Tups H' l (chgRows f o i)∧∀ x,H4 x≠none→H' x=H4 x) ?_ ?_ ?_ ?_
  ·exact ⟨none,none,none,none,rfl,Tups.nil l5,e5⟩
  ·rintro i σ H' _ ⟨a1,a2,a3,a4,rfl,_,q⟩
   exact SqL.of (R.kept fun x hx=>by rw [q x (by rw [eA x hx];exact hx),eA x hx]).lst
  ·rintro i x σ H' t hx ⟨a1,a2,a3,a4,rfl,ht,q⟩ hT
   rw [List.getElem?_map] at hx
   obtain ⟨a,ha,rfl⟩:=Option.map_eq_some_iff.mp hx
   have hi:i<s.nodes.length:=by rw [← R.len];exact (List.getElem?_eq_some_iff.mp ha).1
   have e6:∀ x,H' x≠none→upd H' t (.tup [.int i,.ref a]) x=H' x:=fun x hx=>upd_ne fun e=>hx (by rw [e];exact hT)
   have q1:∀ x,H4 x≠none→upd H' t (.tup [.int i,.ref a]) x=H4 x:=fun x hx=>by rw [e6 x (by rw [q x hx];exact hx),q x hx]
   have hob:=((R.kept fun x hx=>by rw [q1 x (by rw [eA x hx];exact hx),eA x hx]:WaysAt A (upd H' t (.tup [.int i,.ref a])) p nl sd as s f).obs i a ha)
   have ht1:=ht.keep e6
   obtain ⟨tt,x,y,g1,g2,g3,g4⟩:=hthen i hi
   subst g3;subst g4
   have l6:upd H' t (.tup [.int i,.ref a]) l4=some (.lst (bx++List.replicate (s.nodes.length - o.length) (V.ref t0))):=by rw [q1 l4 (by rw [l4'];simp)];exact l4'
   have g6:upd H' t (.tup [.int i,.ref a]) tt=some (.tup [.int ((o.getD i [0,0]).getD 0 0),.int ((o.getD i [0,0]).getD 1 0)]):=by rw [q1 tt (by rw [g2];simp)];exact g2
   refine ⟨t,_,rfl,.inl (.inl upd_same),rfl,_,_,rfl,_,_,rfl,rfl,?_⟩
   refine ⟨_,rfl,rd_fld T.fd_Node_live_pieces hob rfl ⟨_,rfl,_,rfl,l4,_,_,_,rfl,rfl,SqL.of l6,atI_nat (j:=i) (v:=.ref tt) g1,tt,_,_,_,rfl,rfl,.inl (.inl g6),atI_nat (j:=0) (v:=.int _) rfl,_,_,rfl,rfl,?_⟩⟩
   refine ⟨_,rfl,rd_fld T.fd_Node_live_bytes hob rfl ⟨_,rfl,_,rfl,l4,_,_,_,rfl,rfl,SqL.of l6,atI_nat (j:=i) (v:=.ref tt) g1,tt,_,_,_,rfl,rfl,.inl (.inl g6),atI_nat (j:=1) (v:=.int _) rfl,_,_,rfl,rfl,?_⟩⟩
   have push:∀ D:Ends,D.nx=(fun σ H'=>∃ a1 a2 a3 a4:Option V,σ=[some (.ref p),some (.ref bl),some (.ref l4),some (.ref l),a1,a2,a3,a4]∧Tups H' l (chgRows f o (i+1))∧∀ x,H4 x≠none→H' x=H4 x)→(chgP f o i≠0∨chgB f o i≠0) →
     (tDrop (tBM K "list" rAppend (tVar 3) (tCons (tTup (tCons (tVar 4) (tCons (tVar 6) (tCons (tVar 7) tNil)))) tNil))) D [some (.ref p),some (.ref bl),some (.ref l4),some (.ref l),some (.int i),some (.ref a),some (.int (chgP f o i)),some (.int (chgB f o i))] (upd H' t (.tup [.int i,.ref a])):=by
    intro D hD hc
    obtain ⟨xs,hxs,hlen⟩:=ht1.len
    have hln:=chgRows_len f o i
    refine ⟨_,rfl,.inl ⟨rfl,_,SqL.of hxs⟩,_,rfl,_,rfl,_,rfl,by show 3≤sizeLine;decide,fun t2 ht2=>?_⟩
    have nlt:l≠t2:=fun e=>by rw [← e,hxs] at ht2;cases ht2
    refine ⟨l,_,_,rfl,rfl,by rw [upd_ne nlt];exact hxs,by omega,?_⟩
    rw [hD]
    refine ⟨_,_,_,_,rfl,?_,fun x hx=>?_⟩
    ·have e:chgRows f o (i+1)=chgRows f o i++[[(i:Int),chgP f o i,chgB f o i]]:=by
      unfold chgRows
      rw [filter_snoc,if_pos (decide_eq_true hc)]
     rw [e]
     exact ht1.push hxs ht2 upd_same (by rw [upd_ne nlt.symm,upd_same];rfl) fun x hx n=>by rw [upd_ne n,upd_ne fun e=>hx (by rw [e];exact ht2)]
    ·have hq:=q1 x hx
     have n1:x≠l:=fun e=>hx (by rw [e];exact hl)
     have n2:x≠t2:=fun e=>hx (by rw [← hq,e];exact ht2)
     rw [upd_ne n1,upd_ne n2,hq]
   refine ⟨_,rfl,rfl,_,rfl,?_⟩
   rw [dec_int]
   refine ite2 (fun c=>?_) (fun c=>?_)
   ·have c:(!(chgP f o i == 0))=true:=c
    have c:¬ chgP f o i=0:=fun z=>by rw [z] at c;simp at c
    exact push _ rfl (.inl c)
   ·have c:¬ (!(chgP f o i == 0))=true:=c
    have c:chgP f o i=0:=by
     cases e:(chgP f o i == 0) with
     | true=>exact beq_iff_eq.mp e
     | false=>rw [e] at c;exact absurd rfl c
    refine ⟨_,rfl,rfl,_,rfl,?_⟩
    rw [dec_int]
    refine ite2 (fun c2=>?_) (fun c2=>?_)
    ·have c2:(!(chgB f o i == 0))=true:=c2
     have c2:¬ chgB f o i=0:=fun z=>by rw [z] at c2;simp at c2
     exact push _ rfl (.inr c2)
    ·have c2:¬ (!(chgB f o i == 0))=true:=c2
     have c2:chgB f o i=0:=by
      cases e:(chgB f o i == 0) with
      | true=>exact beq_iff_eq.mp e
      | false=>rw [e] at c2;exact absurd rfl c2
     refine ⟨_,_,_,_,rfl,?_,q1⟩
     have e:chgRows f o (i+1)=chgRows f o i:=by
      unfold chgRows
      rw [filter_snoc,if_neg (by rw [decide_eq_true_eq];rintro (z | z);exact z c;exact z c2),List.append_nil]
     rw [e];exact ht1
  ·rintro σ H' ⟨a1,a2,a3,a4,rfl,ht,q⟩
   rw [List.length_map,R.len] at ht
   exact ⟨_,rfl,kk l H' hl0' ht fun x hx=>by rw [q x (by rw [eA x hx];exact hx),eA x hx]⟩
end
end Bk
namespace Bk
theorem stable_pair {α:Type}{key:α→Int}{lt:α→α→Prop}{l0 l:List α} (h0:l0.Pairwise lt) (hs:l.Pairwise (fun a b=>key a≤key b)) (hf:∀ c,l.filter (fun a=>key a == c)=l0.filter (fun a=>key a == c)) :
  l.Pairwise (fun a b=>key a<key b∨(key a=key b∧lt a b)):=by
 rw [List.pairwise_iff_forall_sublist]
 intro a b hab
 have h1:=(List.pairwise_iff_forall_sublist.mp hs) hab
 by_cases e:key a=key b
 ·refine .inr ⟨e,?_⟩
  have h2:List.Sublist ([a,b].filter (fun x=>key x == key b)) (l.filter (fun x=>key x == key b)):=hab.filter _
  rw [hf] at h2
  have e3:[a,b].filter (fun x=>key x == key b)=[a,b]:=by simp [e]
  rw [e3] at h2
  exact (List.pairwise_iff_forall_sublist.mp h0) (h2.trans List.filter_sublist)
 ·exact .inl (by omega)
theorem map_inj_on {α β:Type}{g:α→β}:∀ {l1 l2:List α},l1.map g=l2.map g→(∀ x∈l1,∀ y∈l2,g x=g y→x=y)→l1=l2
 | [],[],_,_=>rfl
 | [],_::_,h,_=>by simp at h
 | _::_,[],h,_=>by simp at h
 | x::l1,y::l2,h,hi=>by
  rw [List.map_cons,List.map_cons] at h
  have e:=List.cons.inj h
  rw [hi x List.mem_cons_self y List.mem_cons_self e.1,map_inj_on e.2 fun a ha b hb=>hi a (List.mem_cons_of_mem _ ha) b (List.mem_cons_of_mem _ hb)]
theorem sorted_unique {α:Type}{lt:α→α→Prop} (as:∀ a b,lt a b→¬ lt b a):∀ {l1 l2:List α},l1.Perm l2→l1.Pairwise lt→l2.Pairwise lt→l1=l2
 | [],l2,h,_,_=>by rw [h.nil_eq]
 | a::l1,[],h,_,_=>by have:=h.length_eq;simp at this
 | a::l1,b::l2,h,h1,h2=>by
  obtain ⟨h3,h4⟩:=List.pairwise_cons.mp h1
  obtain ⟨h5,h6⟩:=List.pairwise_cons.mp h2
  have hab:a=b:=by
   have ha:a∈b::l2:=h.mem_iff.mp List.mem_cons_self
   have hb:b∈a::l1:=h.mem_iff.mpr List.mem_cons_self
   rcases List.mem_cons.mp ha with e | ha
   ·exact e
   ·rcases List.mem_cons.mp hb with e | hb
    ·exact e.symm
    ·exact absurd (h3 b hb) (as _ _ (h5 a ha))
  subst hab
  rw [sorted_unique as (List.Perm.cons_inv h) h4 h6]
open Sh28
theorem insertBy_perm {α:Type} (lt:α→α→Bool) (x:α):∀ l:List α,(insertBy lt x l).Perm (x::l)
 | []=>List.Perm.refl _
 | y::l=>by
  unfold insertBy
  split
  ·exact List.Perm.refl _
  ·exact ((insertBy_perm lt x l).cons y).trans (List.Perm.swap x y l)
theorem sortBy_perm {α:Type} (lt:α→α→Bool):∀ l:List α,(sortBy lt l).Perm l
 | []=>List.Perm.refl _
 | x::l=>by
  show (insertBy lt x (sortBy lt l)).Perm (x::l)
  exact (insertBy_perm lt x _).trans ((sortBy_perm lt l).cons x)
theorem insertBy_pw {α:Type}{lt:α→α→Bool} (tr:∀ a b c,lt a b=true→lt b c=true→lt a c=true) (x:α):∀ {l:List α},(∀ y∈l,lt x y=true∨lt y x=true)→l.Pairwise (fun a b=>lt a b=true)→(insertBy lt x l).Pairwise (fun a b=>lt a b=true)
 | [],_,_=>by simp [insertBy]
 | y::l,ht,hp=>by
  obtain ⟨h1,h2⟩:=List.pairwise_cons.mp hp
  unfold insertBy
  by_cases e:lt x y=true
  ·rw [if_pos e]
   refine List.pairwise_cons.mpr ⟨fun z hz=>?_,hp⟩
   rcases List.mem_cons.mp hz with rfl | hz
   ·exact e
   ·exact tr _ _ _ e (h1 z hz)
  ·rw [if_neg e]
   refine List.pairwise_cons.mpr ⟨fun z hz=>?_,insertBy_pw tr x (fun z hz=>ht z (List.mem_cons_of_mem _ hz)) h2⟩
   rcases List.mem_cons.mp ((insertBy_perm lt x l).mem_iff.mp hz) with rfl | hz
   ·rcases ht y List.mem_cons_self with h | h
    ·exact absurd h e
    ·exact h
   ·exact h1 z hz
theorem sortBy_pw {α:Type}{lt:α→α→Bool} (tr:∀ a b c,lt a b=true→lt b c=true→lt a c=true):∀ {l:List α},l.Pairwise (fun a b=>lt a b=true∨lt b a=true)→(sortBy lt l).Pairwise (fun a b=>lt a b=true)
 | [],_=>List.Pairwise.nil
 | x::l,h=>by
  obtain ⟨h1,h2⟩:=List.pairwise_cons.mp h
  exact insertBy_pw tr x (fun y hy=>h1 y ((sortBy_perm lt l).mem_iff.mp hy)) (sortBy_pw tr h2)
end Bk
namespace Bk
open PySem L2
open Sh28 (State nodeAt depthOf child up under wayUp pathOf findWay begun)
theorem cut_take (xs:List V) (k:Nat):cutV xs none (some (k:Int))=xs.take k:=by
 unfold cutV
 rw [HT.sIx_none,HT.sIx_nat,List.drop_zero,Nat.sub_zero]
 by_cases h:k≤xs.length
 ·rw [Nat.min_eq_left h]
 ·rw [Nat.min_eq_right (by omega),List.take_of_length_le (Nat.le_refl _),List.take_of_length_le (by omega)]
theorem tups_take {H H':Hp}{l l':Addr}{rows:List (List Int)}{qs:List (Addr × List Int)} (k:Nat) (hq:∀ p∈qs,H p.1=some (.tup (p.2.map V.int))) (hl:H' l'=some (.lst ((qs.map fun p=>V.ref p.1).take k))) (hk:∀ p∈qs,H' p.1=H p.1):Tups H' l' ((qs.map (·.2)).take k) :=
 ⟨qs.take k,by rw [hl,List.map_take],by rw [List.map_take],fun p hp=>by rw [hk p (List.mem_of_mem_take hp)];exact hq p (List.mem_of_mem_take hp)⟩
def BmH (A:Adr) (H:Hp):Prop:=H A.a_bm=some (.ext fun h=>h.get? A.a_bm=some A.o_bm)
def topLt (a b:List Int):Prop:=b.getD 1 0<a.getD 1 0∨(a.getD 1 0=b.getD 1 0∧a.getD 0 0<b.getD 0 0)
section
variable {P:Program}{w:World}{K:PySem.W.Frag}{mg:Str→Option Value}{base:Heap}{A:Adr}
def sp_Ways_most (A:Adr):Sp:=fun vs H Q _=>∃ (p nl sd:Addr) (as:List Addr) (s:State) (f:Nat→Nm) (b k:Nat),vs=[.ref p,.int b,.int k]∧WaysAt A H p nl sd as s f∧Wf s∧BmH A H∧LamTab H A.t_Ways_most lq_Ways_most lp_Ways_most ∧
 ∀ (l:Addr) (H':Hp) (R:List (List Int)),H l=none→R.Perm (sumRows f b s.nodes.length)→R.Pairwise topLt→Tups H' l (R.take k)→LamTab H' A.t_Ways_most lq_Ways_most lp_Ways_most→(∀ x,H x≠none→x≠A.t_Ways_most→H' x=H x)→Q (.ref l) H'
theorem sc_Ways_most:FnScope ["self","by","k"] ["self","by","k"] (defScope s_Ways_most):=⟨rfl,rfl,rfl,by decide +kernel,rfl,by decide +kernel,by decide +kernel⟩
theorem ok_Ways_most (T:Txt K mg A):FnOk P w K mg base CX0 3 A.f_Ways_most A.d_Ways_most ["self","by","k"] (sp_Ways_most A):=by
 refine okC (T.m_Ways_most.fn) sc_Ways_most (fun vs H Q E h=>?_) (fun cdv hcdv AA outer s H vs Q E hr h=>?_)
 ·obtain ⟨p,nl,sd,as,s,f,b,k,rfl,_⟩:=h
  rfl
 ·obtain ⟨p,nl,sd,as,s,f,b,k,rfl,R,W,hbm,hlt,kk⟩:=h
  refine ⟨_,(pss_one (ps_ret (pe_slice sl_list (pe_sortedKey (bm:=A.a_bm) (hr.mono (by decide)) rfl (by rfl) T.b_sorted (pe_meth (pv 0) T.cl_Ways T.m_Ways_sums.me (ok_Ways_sums T) (hr.mono (by decide)) T.m_Ways_sums.bi .nil pass0 (pa_cons (pv 1) pa_nil)) (hcdv.symm.trans T.lc_Ways_most) T.lh_Ways_most rfl key_neg rfl (by decide +kernel) rfl rfl rfl) po_none (po_some (pv 2))))),?_⟩
  refine ⟨_,rfl,rd_meth R.ob (by decide +kernel) ⟨_,rfl,p,nl,sd,as,s,f,b,rfl,R,W,fun l1 H1 hl1 ht1 e1=>?_⟩⟩
  obtain ⟨ps,hps,hrows,htups⟩:=ht1
  have hrow:∀ q∈ps,∃ k:Nat,q.2=[(k:Int),nmBy (f k) b]:=fun q hq=>by
   have:q.2∈sumRows f b s.nodes.length:=by rw [← hrows];exact List.mem_map.mpr ⟨q,hq,rfl⟩
   unfold sumRows at this
   obtain ⟨k,_,e⟩:=List.mem_map.mp this
   exact ⟨k,e.symm⟩
  have hbm1:BmH A H1:=by unfold BmH;rw [e1 _ (by rw [show H A.a_bm=_ from hbm];simp)];exact hbm
  obtain ⟨tps,htp,htc⟩:=hlt
  have hlt1:LamTab H1 A.t_Ways_most lq_Ways_most lp_Ways_most:=⟨tps,by rw [e1 _ (by rw [htp];simp)];exact htp,htc.elim .inl fun ⟨c,e,hc⟩=>.inr ⟨c,e,by rw [e1 _ (by rw [hc];simp)];exact hc⟩⟩
  have nP:∀ q∈ps,q.1≠A.t_Ways_most:=fun q hq=>by
   obtain ⟨_,h,_⟩:=hlt1
   exact ne_of (htups q hq) h fun e=>by cases e
  let g:Addr × List Int→Int × V:=fun q=>(-(q.2.getD 1 0),V.ref q.1)
  have ginj:∀ x∈ps,∀ y∈ps,g x=g y→x=y:=fun x hx y hy e=>by
   have e2:x.1=y.1:=V.ref.inj (Prod.mk.inj e).2
   have h1:=htups x hx
   have h2:=htups y hy
   rw [e2,h2] at h1
   injection h1 with h1
   injection h1 with h1
   have h3:y.2=x.2:=map_inj_on h1 fun a _ b _ h=>V.int.inj h
   exact Prod.ext e2 h3.symm
  refine ⟨l1,ps.map fun q=>V.ref q.1,ps.map fun q=>-(q.2.getD 1 0),rfl,SqL.of hps,⟨T.bm_m,T.bm_1,T.bm_2,A.o_bm,hbm1,T.bm_3,T.bm_4,T.bm_5⟩,hlt1,by rw [List.length_map,List.length_map],fun H2 same i v k0 hv hk0=>?_,fun qs0 D H2 h1 h2 h3 hD hlt2 same hD2=>?_⟩
  ·rw [List.getElem?_map] at hv hk0
   cases e:ps[i]? with
   | none=>rw [e] at hv;cases hv
   | some q =>
    rw [e] at hv hk0
    cases hv;cases hk0
    have hq:=List.mem_of_getElem? e
    obtain ⟨k1,e2⟩:=hrow q hq
    refine ⟨q.1,_,rfl,by rw [same q.1 (nP q hq) (by rw [htups q hq];simp)];exact htups q hq,?_⟩
    rw [Int.neg_neg,e2];rfl
  ·have ez:(ps.map fun q=>-(q.2.getD 1 0)).zip (ps.map fun q=>V.ref q.1)=ps.map g:=by rw [List.zip_map']
   rw [ez] at h1 h3
   obtain ⟨qs,hq1,rfl⟩:=perm_map h1 ps rfl
   have hqf:∀ c,qs.filter (fun q=>-(q.2.getD 1 0) == c)=ps.filter fun q=>-(q.2.getD 1 0) == c:=fun c=>by
    have:=h3 c
    rw [List.filter_map,List.filter_map] at this
    exact map_inj_on this fun x hx y hy=>ginj x (hq1.mem_iff.mp ((List.mem_filter.mp hx).1)) y ((List.mem_filter.mp hy).1)
   have hps0:ps.Pairwise fun x y=>x.2.getD 0 0<y.2.getD 0 0:=by
    have:(ps.map (·.2)).Pairwise fun x y=>x.getD 0 0<y.getD 0 0:=by
     rw [hrows]
     unfold sumRows
     rw [List.pairwise_map]
     refine (List.pairwise_lt_range.filter _).imp fun {a b} h=>?_
     show (a:Int)<b
     omega
    rw [List.pairwise_map] at this
    exact this
   have hs2:qs.Pairwise fun x y=>-(x.2.getD 1 0)≤-(y.2.getD 1 0):=by
    rw [List.pairwise_map] at h2
    exact h2
   have hsp:=stable_pair (key:=fun q:Addr × List Int=>-(q.2.getD 1 0)) hps0 hs2 hqf
   have hl1n:l1≠A.t_Ways_most:=by
    obtain ⟨_,h,_⟩:=hlt1
    exact ne_of hps h fun e=>by cases e
   have hqt:∀ q∈qs,H2 q.1=some (.tup (q.2.map V.int)):=fun q hq=>by
    have hq':=hq1.mem_iff.mp hq
    rw [same q.1 (nP q hq') (by rw [htups q hq'];simp)];exact htups q hq'
   have em:(qs.map g).map (·.2)=qs.map fun q=>V.ref q.1:=by rw [List.map_map];rfl
   rw [em] at hD2
   refine ⟨_,rfl,_,rfl,D,_,rfl,SqL.of hD2,fun l hl=>?_⟩
   rw [cut_take]
   have eA:∀ x,H x≠none→x≠A.t_Ways_most→H2 x=H x:=fun x hx hn=>by rw [same x hn (by rw [e1 x hx];exact hx),e1 x hx]
   have h2P:H2 A.t_Ways_most≠none:=by
    obtain ⟨_,h,_⟩:=hlt2
    rw [h];simp
   have e2:∀ x,H2 x≠none→upd H2 l (.lst ((qs.map fun q=>V.ref q.1).take k)) x=H2 x:=fun x hx=>upd_ne fun e=>hx (by rw [e];exact hl)
   have hl0:H l=none:=by
    cases e:H l with
    | none=>rfl
    | some u =>
     by_cases ep:l=A.t_Ways_most
     ·rw [ep] at hl;exact absurd hl h2P
     ·rw [eA l (by rw [e];simp) ep,e] at hl;cases hl
   refine kk l _ (qs.map (·.2)) hl0 ?_ ?_ (tups_take (H:=H2) (l:=D) (rows:=[]) k hqt upd_same fun q hq=>e2 q.1 (by rw [hqt q hq];simp)) ?_ fun x hx hn=>?_
   ·have:=hq1.map (·.2)
    rw [hrows] at this
    exact this
   ·rw [List.pairwise_map]
    refine hsp.imp fun {x y} h=>?_
    unfold topLt
    rcases h with h | ⟨h,h'⟩
    ·exact .inl (by have:-(x.2.getD 1 0) < -(y.2.getD 1 0):=h;omega)
    ·exact .inr ⟨by have:-(x.2.getD 1 0) = -(y.2.getD 1 0):=h;omega,h'⟩
   ·obtain ⟨tps2,htp2,htc2⟩:=hlt2
    exact ⟨tps2,by rw [e2 _ h2P];exact htp2,htc2.elim .inl fun ⟨c,e,hc⟩=>.inr ⟨c,e,by rw [e2 _ (by rw [hc];simp)];exact hc⟩⟩
   ·rw [e2 x (by rw [eA x hx hn];exact hx),eA x hx hn]
theorem dec_tl (n:Nat):TL.tl (Str.ofString (toString (n:Int)))=Sh28.decimal n:=PySem.W.KIN.signs_num n
theorem dec_len {n k:Nat} (hk:1≤k) (h:n<10 ^ k):(Sh28.decimal n).length≤k:=by
 unfold Sh28.decimal
 rw [List.length_map]
 exact PyProof.Rows.digits10_le hk h
theorem joinL_joined:∀ ws:List Nat,TL.joinL [59] (ws.map Sh28.decimal)=Sh28.joined ws
 | []=>rfl
 | [_]=>rfl
 | a::b::r=>by
  show Sh28.decimal a++([59]++TL.joinL [59] ((b::r).map Sh28.decimal))=_
  rw [joinL_joined (b::r)]
  rfl
theorem joined_len:∀ ws:List Nat,(∀ w∈ws,w<65536)→(Sh28.joined ws).length≤6 * ws.length
 | [],_=>Nat.le_refl _
 | [a],h=>by
  have:=dec_len (n:=a) (k:=5) (by decide) (by have:=h a (by simp);omega)
  show (Sh28.decimal a).length≤6
  omega
 | a::b::r,h=>by
  have h1:=dec_len (n:=a) (k:=5) (by decide) (by have:=h a (by simp);omega)
  have h2:=joined_len (b::r) fun w hw=>h w (List.mem_cons_of_mem _ hw)
  show (Sh28.decimal a++(59::Sh28.joined (b::r))).length≤_
  rw [List.length_append,List.length_cons,List.length_cons]
  omega
theorem joinL_nil:∀ xs:List (List Nat),TL.joinL [] xs=xs.flatten
 | []=>rfl
 | [p]=>by simp [TL.joinL]
 | p::q::r=>by
  show p++([]++TL.joinL [] (q::r))=_
  rw [joinL_nil (q::r)];rfl
def lineOf (s:State) (k m:Nat):List Nat:=Sh28.joined (pathOf s k)++(32::(Sh28.decimal m++[10]))
theorem path_len {s:State} (k:Nat):(pathOf s k).length=depthOf s k:=by unfold pathOf depthOf;rw [List.length_reverse]
theorem path_who {s:State} (W:Wf s) {k:Nat} (hk:k<s.nodes.length):∀ x∈pathOf s k,x<65536:=fun x hx=>by
 unfold pathOf at hx
 rw [List.mem_reverse,show Sh28.DEEP=64 from rfl,wayUp_chain W hk] at hx
 obtain ⟨i,_,rfl⟩:=List.mem_map.mp hx
 exact W.who _ (up_lt W i hk)
theorem lineOf_len {s:State} (W:Wf s) {k m:Nat} (hk:k<s.nodes.length) (hm:m<10 ^ 20):(lineOf s k m).length≤410:=by
 unfold lineOf
 have h1:=joined_len (pathOf s k) (path_who W hk)
 have h2:=path_len (s:=s) k
 have h3:=depth_le (s:=s) k
 have h4:=dec_len (n:=m) (k:=20) (by decide) hm
 rw [List.length_append,List.length_cons,List.length_append]
 show _+(_+1+1)≤_
 omega
theorem sum_len_joined:∀ ws:List Nat,(∀ w∈ws,w<65536)→((ws.map fun (w:Nat)=>Str.ofString (toString (w:Int))).map (·.length)).sum≤5 * ws.length
 | [],_=>Nat.le_refl _
 | a::r,h=>by
  have h1:=dec_len (n:=a) (k:=5) (by decide) (by have:=h a (by simp);omega)
  have h2:=sum_len_joined r fun w hw=>h w (List.mem_cons_of_mem _ hw)
  rw [List.map_cons,List.map_cons,List.sum_cons,List.length_cons,TL.len_tl,dec_tl]
  omega
def sp_Ways_line (A:Adr):Sp:=fun vs H Q _=>∃ (p nl sd:Addr) (as:List Addr) (s:State) (f:Nat→Nm) (k m:Nat),vs=[.ref p,.int k,.int m]∧WaysAt A H p nl sd as s f∧Wf s∧k<s.nodes.length∧m<10 ^ 20 ∧
 ∀ (t:Str) (H':Hp),TL.tl t=lineOf s k m→(∀ x,H x≠none→H' x=H x)→Q (.str t) H'
theorem sc_Ways_line:FnScope ["self","k","much","way","who"] ["self","k","much"] (defScope s_Ways_line):=⟨rfl,rfl,rfl,by decide +kernel,rfl,by decide +kernel,by decide +kernel⟩
theorem ok_Ways_line (T:Txt K mg A):FnOk P w K mg base CX0 3 A.f_Ways_line A.d_Ways_line ["self","k","much"] (sp_Ways_line A):=by
 refine (T.m_Ways_line.fn).ok sc_Ways_line (fun vs H Q E h=>?_) (fun cdv AA outer s H vs Q E hr h=>?_)
 ·obtain ⟨p,nl,sd,as,s,f,k,m,rfl,_⟩:=h
  rfl
 ·obtain ⟨p,nl,sd,as,s,f,k,m,rfl,R,W,hk,hm,kk⟩:=h
  refine ⟨_,(pss_cons (ps_set (i:=3) sc_Ways_line.nd rfl (Or.inl rfl) (pe_join pe_str (pe_lc (own:=[("who",4)]) (g:=(gName 4)) (te:=(tCB (fun xs H Q=>∃ i,xs=[.int i]∧i.natAbs.log2<1920∧Q (.str (toString i)) H) (tCons (tVar 4) tNil))) rfl sc_Ways_line.nd (pi_list (pe_meth (pv 0) T.cl_Ways T.m_Ways_whos.me (ok_Ways_whos T) (hr.mono (by decide)) T.m_Ways_whos.bi .nil pass0 (pa_cons (pv 1) pa_nil))) ⟨rfl,by decide +kernel,(show ∀ p∈([("who",4)]:List (Str × Nat)),(["self","k","much","way","who"]:List Str)[p.2]?=some p.1 by decide +kernel),(show ∀ y∈(_:List (Str × NameKind)),y.2=NameKind.free→(defScope s_Ways_line).names.lookup y.1=some NameKind.cell∨(defScope s_Ways_line).names.lookup y.1=some NameKind.free by decide +kernel),(show ∀ y∈(_:List (Str × NameKind)),y.2=NameKind.local∨y.2=NameKind.cell→y.1∈([("who",4)]:List (Str × Nat)).map (·.1)∨y.1∉(["self","k","much","way","who"]:List Str) by decide +kernel)⟩ (fun _ _ _ _ _=>(pg_name (i:=4) sc_Ways_line.nd rfl (Or.inl rfl))) (fun _ _ _ _ _=>pts_nil) (fun _ _ _ _ _=>(pe_callTy call_str_int (by rfl) T.b_str boot_str (pa_cons (pv 4) pa_nil))))))
   (pss_one (ps_ret (pe_fstr (pj_cons (pe_fmt (pv 3)) (pj_cons pe_str (pj_cons (pe_fmt (pv 2)) (pj_cons pe_str pj_nil)))))))),?_⟩
  have hsl:=PySem.sizeLine_eq
  have hpl:=path_len (s:=s) k
  have hdl:=depth_le (s:=s) k
  have hwho:=path_who W hk
  have hlog:∀ n:Nat,n<10 ^ 20→((n:Int).natAbs).log2<1920:=fun n hn=>by
   rw [Int.natAbs_natCast]
   by_cases h0:n=0
   ·subst h0;decide
   ·have:n<2 ^ 67:=Nat.lt_trans hn (by decide)
    have:=(Nat.log2_lt h0).mpr this
    omega
  refine ⟨⟨_,rfl⟩,_,rfl,rd_meth R.ob (by decide +kernel) ⟨_,rfl,p,nl,sd,as,s,f,k,rfl,R,W,hk,fun l1 H1 hl1 h1 e1=>?_⟩⟩
  refine ⟨l1,rfl,⟨_,SqL.of h1⟩,fun D hD=>?_⟩
  have nlD:l1≠D:=ne_of_none h1 hD
  refine lc_list (xs:=(pathOf s k).map fun (j:Nat)=>V.int (j:Int)) (fun i H'=>H' l1=H1 l1∧(∀ x,H x≠none→H' x=H x)∧H' D=some (.lst (((pathOf s k).take i).map fun (w:Nat)=>V.str (Str.ofString (toString (w:Int)))))) ?_ ?_ ?_ ?_
  ·exact ⟨upd_ne nlD,fun x hx=>by rw [upd_ne fun e=>hx (by rw [← e1 x hx,e];exact hD),e1 x hx],upd_same⟩
  ·rintro i H' _ ⟨h,_⟩
   exact SqL.of (h.trans h1)
  ·rintro i x H' hx ⟨q1,q2,q3⟩
   rw [List.getElem?_map] at hx
   obtain ⟨v,hv,rfl⟩:=Option.map_eq_some_iff.mp hx
   have hi:i<(pathOf s k).length:=(List.getElem?_eq_some_iff.mp hv).1
   refine ⟨rfl,_,rfl,_,rfl,hlog v (by have:=hwho v (List.mem_of_getElem? hv);omega),_,q3,by rw [List.length_map,List.length_take];omega,?_,?_,?_⟩
   ·rw [upd_ne nlD,q1]
   ·intro x hx
    have hq:=q2 x hx
    rw [upd_ne fun e=>hx (by rw [← e1 x hx,e];exact hD),hq]
   ·rw [upd_same,List.take_add_one,hv,List.map_append];rfl
  ·rintro H' ⟨q1,q2,q3⟩
   rw [List.length_map,List.take_length] at q3
   have q3':H' D=some (.lst (((pathOf s k).map fun (w:Nat)=>Str.ofString (toString (w:Int))).map V.str)):=by rw [q3,List.map_map];rfl
   have hsum:=sum_len_joined (pathOf s k) hwho
   refine ⟨";",D,(pathOf s k).map fun (w:Nat)=>Str.ofString (toString (w:Int)),rfl,rfl,.inl (SqL.of q3'),?_,?_⟩
   ·rw [List.length_map]
    have:(";":Str).length=1:=by decide +kernel
    rw [this]
    omega
   have ejoin:TL.tl (Txt.join ";" ((pathOf s k).map fun (w:Nat)=>Str.ofString (toString (w:Int))))=Sh28.joined (pathOf s k):=by
    rw [TL.join_eq,TL.tl_join,List.map_map]
    have e1:TL.tl (";":Str)=[59]:=by decide +kernel
    rw [e1,← joinL_joined]
    congr 1
    exact List.map_congr_left fun n _=>dec_tl n
   generalize Txt.join ";" ((pathOf s k).map fun (w:Nat)=>Str.ofString (toString (w:Int)))=wt at ejoin
   have hjl:=joined_len (pathOf s k) hwho
   have hml:=dec_len (n:=m) (k:=20) (by decide) hm
   have l1':wt.length≤384:=by rw [TL.len_tl,ejoin];omega
   have l2':(Str.ofString (toString (m:Int))).length≤20:=by rw [TL.len_tl,dec_tl];exact hml
   have lb:(" ":Str).length=1:=by decide +kernel
   have ln:("\n":Str).length=1:=by decide +kernel
   have l0:(Str.empty:Str).length=0:=by decide +kernel
   refine ⟨_,rfl,.inl ⟨wt,rfl,by omega,wt,rfl,by rw [strLen_append];omega,_,rfl,by rw [strLen_append,strLen_append,lb];omega,_,rfl,.inr ⟨(m:Int),rfl,hlog m hm,_,rfl,by rw [strLen_append,strLen_append,strLen_append,lb];omega,_,rfl,by rw [strLen_append,strLen_append,strLen_append,strLen_append,lb,ln];omega,by rw [strLen_append,strLen_append,strLen_append,strLen_append,lb,ln];omega,?_⟩⟩⟩
   refine kk _ H' ?_ q2
   rw [TL.tl_append,TL.tl_append,TL.tl_append,TL.tl_append,ejoin,dec_tl]
   have eb:TL.tl (" ":Str)=[32]:=by decide +kernel
   have en:TL.tl ("\n":Str)=[10]:=by decide +kernel
   have e0:TL.tl (Str.empty:Str)=[]:=by decide +kernel
   rw [eb,en,e0]
   unfold lineOf
   simp
def textRows (s:State) (rows:List (List Int)):List Nat:=(rows.map fun r=>lineOf s (r.getD 0 0).toNat (r.getD 1 0).toNat).flatten
def sp_Ways_text (A:Adr):Sp:=fun vs H Q _=>∃ (p nl sd:Addr) (as:List Addr) (s:State) (f:Nat→Nm) (b:Nat),vs=[.ref p,.int b]∧WaysAt A H p nl sd as s f∧Wf s∧(∀ k,k<s.nodes.length→nmBy (f k) b<10 ^ 20) ∧
 ∀ (t:Str) (H':Hp),TL.tl t=textRows s (sumRows f b s.nodes.length)→(∀ x,H x≠none→H' x=H x)→Q (.str t) H'
theorem sc_Ways_text:FnScope ["self","by","k","much"] ["self","by"] (defScope s_Ways_text):=⟨rfl,rfl,rfl,by decide +kernel,rfl,by decide +kernel,by decide +kernel⟩
theorem ok_Ways_text (T:Txt K mg A):FnOk P w K mg base CX0 4 A.f_Ways_text A.d_Ways_text ["self","by"] (sp_Ways_text A):=by
 refine (T.m_Ways_text.fn).ok sc_Ways_text (fun vs H Q E h=>?_) (fun cdv AA outer s H vs Q E hr h=>?_)
 ·obtain ⟨p,nl,sd,as,s,f,b,rfl,_⟩:=h
  rfl
 ·obtain ⟨p,nl,sd,as,s,f,b,rfl,R,W,hm,kk⟩:=h
  refine ⟨_,(pss_one (ps_ret (pe_join pe_str (pe_lc (own:=[("k",2),("much",3)]) (g:=(gTup K 2 (gCons (gName 2) (gCons (gName 3) gNil)))) (te:=(tMeth A.c_Ways "line" (sp_Ways_line A) [] E0 (tVar 0) (tCons (tVar 2) (tCons (tVar 3) tNil)))) rfl sc_Ways_text.nd (pi_list (pe_meth (pv 0) T.cl_Ways T.m_Ways_sums.me (ok_Ways_sums T) (hr.mono (by decide)) T.m_Ways_sums.bi .nil pass0 (pa_cons (pv 1) pa_nil))) ⟨rfl,by decide +kernel,(show ∀ p∈([("k",2),("much",3)]:List (Str × Nat)),(["self","by","k","much"]:List Str)[p.2]?=some p.1 by decide +kernel),(show ∀ y∈(_:List (Str × NameKind)),y.2=NameKind.free→(defScope s_Ways_text).names.lookup y.1=some NameKind.cell∨(defScope s_Ways_text).names.lookup y.1=some NameKind.free by decide +kernel),(show ∀ y∈(_:List (Str × NameKind)),y.2=NameKind.local∨y.2=NameKind.cell→y.1∈([("k",2),("much",3)]:List (Str × Nat)).map (·.1)∨y.1∉(["self","by","k","much"]:List Str) by decide +kernel)⟩ (fun _ _ _ _ _=>(pg_tup rfl (pgs_cons (pg_name (i:=2) sc_Ways_text.nd rfl (Or.inl rfl)) (pgs_cons (pg_name (i:=3) sc_Ways_text.nd rfl (Or.inl rfl)) pgs_nil)))) (fun _ _ _ _ _=>pts_nil) (fun _ _ _ _ _=>(pe_meth (pv 0) T.cl_Ways T.m_Ways_line.me (ok_Ways_line T) (hr.mono (by decide)) T.m_Ways_line.bi .nil pass0 (pa_cons (pv 2) (pa_cons (pv 3) pa_nil)))))))),?_⟩
  have hsl:=PySem.sizeLine_eq
  have few:=W.few
  refine ⟨⟨_,rfl⟩,_,rfl,rd_meth R.ob (by decide +kernel) ⟨_,rfl,p,nl,sd,as,s,f,b,rfl,R,W,fun l1 H1 hl1 ht1 e1=>?_⟩⟩
  obtain ⟨ps,hps,hrows,htups⟩:=ht1
  have hlen:ps.length≤s.nodes.length:=by
   have:=sumRows_len f b s.nodes.length
   rw [← hrows,List.length_map] at this
   exact this
  have hrow:∀ q∈ps,∃ k m:Nat,k<s.nodes.length∧m<10 ^ 20∧q.2=[(k:Int),(m:Int)]:=fun q hq=>by
   have:q.2∈sumRows f b s.nodes.length:=by rw [← hrows];exact List.mem_map.mpr ⟨q,hq,rfl⟩
   unfold sumRows at this
   obtain ⟨k,hk,e⟩:=List.mem_map.mp this
   rw [List.mem_filter,List.mem_range,decide_eq_true_eq] at hk
   have:=hm k hk.1
   exact ⟨k,(nmBy (f k) b).toNat,hk.1,by omega,by rw [← e,Int.toNat_of_nonneg (by omega)]⟩
  refine ⟨l1,rfl,⟨_,SqL.of hps⟩,fun D hD=>?_⟩
  have nlD:l1≠D:=ne_of_none hps hD
  refine lc_list (xs:=ps.map fun q=>V.ref q.1) (fun i H'=>(∀ x,H1 x≠none→H' x=H1 x)∧∃ ts:List Str,H' D=some (.lst (ts.map V.str))∧ts.map TL.tl=(ps.take i).map fun q=>lineOf s (q.2.getD 0 0).toNat (q.2.getD 1 0).toNat) ?_ ?_ ?_ ?_
  ·exact ⟨fun x hx=>upd_ne fun e=>hx (by rw [e];exact hD),[],upd_same,rfl⟩
  ·rintro i H' _ ⟨h,_⟩
   exact SqL.of (by rw [h l1 (by rw [hps];simp)];exact hps)
  ·rintro i x H' hx ⟨q1,ts,q2,q3⟩
   rw [List.getElem?_map] at hx
   obtain ⟨q,hq,rfl⟩:=Option.map_eq_some_iff.mp hx
   have hqm:=List.mem_of_getElem? hq
   have hi:i<ps.length:=(List.getElem?_eq_some_iff.mp hq).1
   obtain ⟨k,m,hk,hm',e⟩:=hrow q hqm
   have htq:=htups q hqm
   rw [e] at htq
   have htq':H' q.1=some (.tup [.int k,.int m]):=by rw [q1 q.1 (by rw [htq];simp)];exact htq
   have q0:∀ x,H x≠none→H' x=H x:=fun x hx=>by rw [q1 x (by rw [e1 x hx];exact hx),e1 x hx]
   have R':=R.kept q0
   have tl:ts.length=i:=by
    have:=congrArg List.length q3
    rw [List.length_map,List.length_map,List.length_take] at this
    omega
   refine ⟨q.1,_,rfl,.inl (.inl htq'),rfl,_,_,rfl,_,_,rfl,rfl,?_⟩
   refine ⟨rfl,_,rfl,rd_meth R'.ob (by decide +kernel) ⟨_,rfl,_,rfl,p,nl,sd,as,s,f,k,m,rfl,R',W,hk,hm',fun t H2 ht e2=>?_⟩⟩
   refine ⟨ts.map V.str,by rw [e2 D (by rw [q2];simp)];exact q2,by rw [List.length_map];omega,fun x hx=>?_,ts++[t],by rw [upd_same,List.map_append];rfl,?_⟩
   ·have:=q1 x hx
    rw [upd_ne (fun e=>hx (by rw [e];exact hD)),e2 x (by rw [this];exact hx),this]
   ·rw [List.map_append,q3,List.take_add_one,hq,List.map_append]
    show _++[TL.tl t]=_++[lineOf s (q.2.getD 0 0).toNat (q.2.getD 1 0).toNat]
    rw [ht,e]
    simp
  ·rintro H' ⟨q1,ts,q2,q3⟩
   rw [List.length_map,List.take_length] at q3
   have hall:∀ t∈ts,t.length≤410:=fun t ht=>by
    have:TL.tl t∈ts.map TL.tl:=List.mem_map.mpr ⟨t,ht,rfl⟩
    rw [q3] at this
    obtain ⟨q,hq,e⟩:=List.mem_map.mp this
    obtain ⟨k,m,hk,hm',e2⟩:=hrow q hq
    rw [TL.len_tl,← e,e2]
    show (lineOf s (k:Int).toNat (m:Int).toNat).length≤410
    rw [Int.toNat_natCast,Int.toNat_natCast]
    exact lineOf_len W hk hm'
   have tl:ts.length=ps.length:=by
    have:=congrArg List.length q3
    rw [List.length_map,List.length_map] at this
    exact this
   have hsum:∀ ts:List Str,(∀ t∈ts,t.length≤410)→(ts.map (·.length)).sum≤410 * ts.length:=fun ts=>by
    induction ts with
    | nil=>intro _;exact Nat.le_refl _
    | cons a r ih =>
     intro h
     have h1:=h a List.mem_cons_self
     have h2:=ih fun t ht=>h t (List.mem_cons_of_mem _ ht)
     rw [List.map_cons,List.sum_cons,List.length_cons]
     omega
   have hs:=hsum ts hall
   have l0:("":Str).length=0:=by decide +kernel
   refine ⟨"",D,ts,rfl,rfl,.inl (SqL.of q2),by rw [l0];omega,?_⟩
   refine kk _ H' ?_ fun x hx=>by rw [q1 x (by rw [e1 x hx];exact hx),e1 x hx]
   rw [TL.join_eq,TL.tl_join,q3]
   have e0:TL.tl ("":Str)=[]:=by decide +kernel
   rw [e0,joinL_nil]
   unfold textRows
   rw [← hrows,List.map_map]
   rfl
end
end Bk
namespace Bk
open PySem L2
open Sh28 (classOf ageClass)
section
variable {X:Cx}
def rGetN (K:PySem.W.Frag):V→V→Hp→VK→Prop:=fun o i H Q=>∃ (p:Addr) (xs:List V) (j:Nat) (v:V),o=.ref p∧i=.int (j:Int)∧SqL K H p xs∧xs[j]?=some v∧Q v H
theorem get_list:PGet X (rGetN X.K):=by
 intro pins s σ H o i ov iv Q I ro ri h
 obtain ⟨p,xs,j,v,rfl,rfl,hq,hx,q⟩:=h
 cases ro
 obtain ⟨t,rfl⟩:=ri
 obtain ⟨its,r,pl,hz⟩:=I.list hq
 obtain ⟨w,ew,rw'⟩:=r.get hx
 have hj:=(List.getElem?_eq_some_iff.mp hx).1
 have hsl:=PySem.sizeLine_eq
 exact PySem.wpAny_getItem_list pl.isList (by omega) (by omega) (by rw [Int.toNat_natCast];simpa using ew) ⟨v,H,I,rw',q⟩
end
theorem ixN_nat {n j:Nat} (h:j<n):ixN n (j:Int)=some j:=by
 unfold ixN
 rw [if_pos (by omega),if_pos (by omega),Int.toNat_natCast]
theorem bits_nat (n:Nat):Builtin.Int.intBits (n:Int)=if n=0 then 0 else n.log2+1:=by
 unfold Builtin.Int.intBits
 by_cases h:n=0
 ·subst h;rfl
 ·rw [if_neg h,if_neg (by simpa using h),Int.natAbs_natCast]
theorem log2_ge {n:Nat} (h:8≤n):3≤n.log2:=(Nat.le_log2 (by omega)).mpr (by omega)
theorem class_eq {n:Nat} (h:8≤n):(4:Int) * n.log2 - 4+((n:Int) / 2 ^ (((n.log2:Int) - 2).toNat) - 4)=(classOf n:Nat):=by
 have h3:=log2_ge h
 have hl:2 ^ n.log2≤n:=Nat.log2_self_le (by omega)
 have e1:((n.log2:Int) - 2).toNat=n.log2 - 2:=by omega
 have e2:2 ^ n.log2=4 * 2 ^ (n.log2 - 2):=by
  have:n.log2=(n.log2 - 2)+2:=by omega
  rw [this,Nat.pow_add,Nat.add_sub_cancel];omega
 unfold classOf
 rw [if_neg (by omega),e1]
 show _=((4 * n.log2 - 4+(n - 2 ^ n.log2) / 2 ^ (n.log2 - 2):Nat):Int)
 have hp:0<2 ^ (n.log2 - 2):=Nat.two_pow_pos _
 have e3:(n - 2 ^ n.log2) / 2 ^ (n.log2 - 2)=n / 2 ^ (n.log2 - 2) - 4:=by
  rw [e2,Nat.mul_comm,Nat.sub_mul_div]
 have e4:4≤n / 2 ^ (n.log2 - 2):=by
  rw [Nat.le_div_iff_mul_le hp,← e2];exact hl
 rw [e3]
 have e5:(n:Int) / 2 ^ (n.log2 - 2)=((n / 2 ^ (n.log2 - 2):Nat):Int):=by
  rw [Int.natCast_ediv,Int.natCast_pow];rfl
 rw [e5]
 generalize n / 2 ^ (n.log2 - 2)=q at e4
 omega
theorem class_lt {n:Nat} (h:n<2 ^ 32):classOf n<124:=by
 by_cases h8:n<8
 ·unfold classOf;rw [if_pos h8];omega
 ·have h3:=log2_ge (n:=n) (by omega)
  have hu:n.log2<32:=(Nat.log2_lt (by omega)).mpr h
  have e2:2 ^ n.log2=4 * 2 ^ (n.log2 - 2):=by
   have:n.log2=(n.log2 - 2)+2:=by omega
   rw [this,Nat.pow_add,Nat.add_sub_cancel];omega
  have hlt:n<2 ^ (n.log2+1):=Nat.lt_log2_self
  have hp:0<2 ^ (n.log2 - 2):=Nat.two_pow_pos _
  unfold classOf
  rw [if_neg h8]
  show 4 * n.log2 - 4+(n - 2 ^ n.log2) / 2 ^ (n.log2 - 2)<124
  have:(n - 2 ^ n.log2) / 2 ^ (n.log2 - 2)<4:=by
   rw [Nat.div_lt_iff_lt_mul hp]
   rw [Nat.pow_succ] at hlt
   omega
  omega
theorem age_lt {n:Nat} (h:n<2 ^ 63):ageClass n<64:=by
 unfold ageClass
 by_cases h0:n=0
 ·rw [if_pos h0];decide
 ·rw [if_neg h0]
  have:=(Nat.log2_lt h0).mpr h
  omega
def bumpI (l:List Int) (c:Nat) (d:Int):List Int:=l.set c (l.getD c 0+d)
theorem bumpI_len (l:List Int) (c:Nat) (d:Int):(bumpI l c d).length=l.length:=by unfold bumpI;rw [List.length_set]
structure RowsAt (A:Adr) (H:Hp) (p l1 l2 l3 l4:Addr) (a b c d:List Int):Prop where
 ob:Ob H p A.c_Rows K_Rows [.ref l1,.ref l2,.ref l3,.ref l4]
 h1:H l1=some (.lst (a.map V.int))
 h2:H l2=some (.lst (b.map V.int))
 h3:H l3=some (.lst (c.map V.int))
 h4:H l4=some (.lst (d.map V.int))
 nd:[l1,l2,l3,l4].Nodup
 n1:a.length=124
 n2:b.length=124
 n3:c.length=64
 n4:d.length=64
theorem RowsAt.kept {A:Adr}{H H':Hp}{p l1 l2 l3 l4:Addr}{a b c d:List Int} (R:RowsAt A H p l1 l2 l3 l4 a b c d) (k:∀ x,x=p∨x=l1∨x=l2∨x=l3∨x=l4→H' x=H x):RowsAt A H' p l1 l2 l3 l4 a b c d :=
 ⟨R.ob.same (k p (by simp)),by rw [k l1 (by simp)];exact R.h1,by rw [k l2 (by simp)];exact R.h2,by rw [k l3 (by simp)];exact R.h3,by rw [k l4 (by simp)];exact R.h4,R.nd,R.n1,R.n2,R.n3,R.n4⟩
section
variable {A:Adr}{H:Hp}{p l1 l2 l3 l4:Addr}{a b c d:List Int}
theorem RowsAt.ne (R:RowsAt A H p l1 l2 l3 l4 a b c d):l1≠l2∧l1≠l3∧l1≠l4∧l2≠l3∧l2≠l4∧l3≠l4:=by
 have:=R.nd
 simp only [List.nodup_cons,List.mem_cons,List.not_mem_nil,or_false,not_or] at this
 exact ⟨this.1.1,this.1.2.1,this.1.2.2,this.2.1.1,this.2.1.2,this.2.2.1⟩
theorem RowsAt.set1 (R:RowsAt A H p l1 l2 l3 l4 a b c d) {a':List Int} (e:a'.length=124):RowsAt A (upd H l1 (.lst (a'.map V.int))) p l1 l2 l3 l4 a' b c d:=by
 obtain ⟨n1,n2,n3,n4,n5,n6⟩:=R.ne
 exact ⟨R.ob.upd (ob_nl R.ob R.h1),upd_same,by rw [upd_ne n1.symm];exact R.h2,by rw [upd_ne n2.symm];exact R.h3,by rw [upd_ne n3.symm];exact R.h4,R.nd,e,R.n2,R.n3,R.n4⟩
theorem RowsAt.set2 (R:RowsAt A H p l1 l2 l3 l4 a b c d) {a':List Int} (e:a'.length=124):RowsAt A (upd H l2 (.lst (a'.map V.int))) p l1 l2 l3 l4 a a' c d:=by
 obtain ⟨n1,n2,n3,n4,n5,n6⟩:=R.ne
 exact ⟨R.ob.upd (ob_nl R.ob R.h2),by rw [upd_ne n1];exact R.h1,upd_same,by rw [upd_ne n4.symm];exact R.h3,by rw [upd_ne n5.symm];exact R.h4,R.nd,R.n1,e,R.n3,R.n4⟩
theorem RowsAt.set3 (R:RowsAt A H p l1 l2 l3 l4 a b c d) {a':List Int} (e:a'.length=64):RowsAt A (upd H l3 (.lst (a'.map V.int))) p l1 l2 l3 l4 a b a' d:=by
 obtain ⟨n1,n2,n3,n4,n5,n6⟩:=R.ne
 exact ⟨R.ob.upd (ob_nl R.ob R.h3),by rw [upd_ne n2];exact R.h1,by rw [upd_ne n4];exact R.h2,upd_same,by rw [upd_ne n6.symm];exact R.h4,R.nd,R.n1,R.n2,e,R.n4⟩
theorem RowsAt.set4 (R:RowsAt A H p l1 l2 l3 l4 a b c d) {a':List Int} (e:a'.length=64):RowsAt A (upd H l4 (.lst (a'.map V.int))) p l1 l2 l3 l4 a b c a':=by
 obtain ⟨n1,n2,n3,n4,n5,n6⟩:=R.ne
 exact ⟨R.ob.upd (ob_nl R.ob R.h4),by rw [upd_ne n3];exact R.h1,by rw [upd_ne n5];exact R.h2,by rw [upd_ne n6];exact R.h3,upd_same,R.nd,R.n1,R.n2,R.n3,e⟩
end
theorem map_set_int (l:List Int) (c:Nat) (z:Int):(l.map V.int).set c (.int z)=(l.set c z).map V.int:=by rw [List.map_set]
theorem get_int {l:List Int}{c n:Nat} (hn:l.length=n) (h:c<n):(l.map V.int)[c]?=some (.int (l.getD c 0)):=by
 rw [List.getElem?_map,List.getElem?_eq_getElem (by omega)]
 simp [show c<l.length by omega]
section
variable {P:Program}{w:World}{K:PySem.W.Frag}{mg:Str→Option Value}{base:Heap}{A:Adr}
def sp_size_class (A:Adr):Sp:=fun vs H Q _=>∃ n:Nat,vs=[.int n]∧Q (.int (classOf n:Nat)) H
theorem sc_size_class:FnScope ["size","power","quarters"] ["size"] (defScope s_size_class):=⟨rfl,rfl,rfl,by decide +kernel,rfl,by decide +kernel,by decide +kernel⟩
theorem ok_size_class (T:Txt K mg A):FnOk P w K mg base CX0 1 A.f_size_class A.d_size_class ["size"] (sp_size_class A):=by
 refine (T.u_size_class.fn).ok sc_size_class (fun vs H Q E h=>?_) (fun cdv AA outer s H vs Q E hr h=>?_)
 ·obtain ⟨n,rfl,_⟩:=h
  rfl
 ·obtain ⟨n,rfl,k⟩:=h
  refine ⟨_,(pss_cons (ps_if (pt_cmpR op_lt (pv 0) pe_int (nomark _))
    (pss_one (ps_ret (pv 0)))
    pss_nil)
   (pss_cons (ps_set (i:=1) sc_size_class.nd rfl (Or.inl rfl) (pe_op op_sub (pe_bm0 PySem.F.plainAttrs_int PySem.F.slot_int_bit_length PySem.F.type_int_bit_length mt_bits (pv 0)) pe_int))
   (pss_cons (ps_set (i:=2) sc_size_class.nd rfl (Or.inl rfl) (pe_op op_sub (pe_op op_shr (pv 0) (pe_op op_sub (pv 1) pe_int)) pe_int))
   (pss_one (ps_ret (pe_op op_add (pe_op op_sub (pe_op op_mul pe_int (pv 1)) pe_int) (pv 2))))))),?_⟩
  refine ⟨_,rfl,_,_,rfl,rfl,_,rfl,?_⟩
  refine ite2 (fun c=>?_) (fun c=>?_)
  ·have c:(n:Int)<8:=of_decide_eq_true c
   have e:classOf n=n:=by unfold classOf;rw [if_pos (by omega)]
   rw [e] at k
   exact ⟨_,rfl,k⟩
  ·have c:¬ (n:Int)<8:=fun q=>c (decide_eq_true q)
   have h3:=log2_ge (n:=n) (by omega)
   have hlt:n.log2<2 ^ 60∨True:=.inr trivial
   have eb:((Builtin.Int.intBits (n:Int):Nat):Int) - 1=(n.log2:Nat):=by
    rw [bits_nat,if_neg (by omega)];omega
   refine ⟨_,rfl,rfl,_,rfl,rfl,_,_,rfl,rfl,?_⟩
   refine ⟨_,rfl,_,rfl,_,_,rfl,rfl,_,_,rfl,rfl,?_,_,_,rfl,rfl,?_⟩
   ·show (0:Int)≤((Builtin.Int.intBits (n:Int):Nat):Int) - 1 - 2
    rw [eb];omega
   refine ⟨_,rfl,_,_,rfl,rfl,.inl ⟨by decide,by decide⟩,_,_,rfl,rfl,_,rfl,_,_,rfl,rfl,?_⟩
   show Q (.int (4 * (((Builtin.Int.intBits (n:Int):Nat):Int) - 1) - 4+((n:Int) / 2 ^ ((((Builtin.Int.intBits (n:Int):Nat):Int) - 1 - 2).toNat) - 4))) H
   rw [eb,class_eq (by omega)]
   exact k
def sp_age_class (A:Adr):Sp:=fun vs H Q _=>∃ n:Nat,vs=[.int n]∧Q (.int (ageClass n:Nat)) H
theorem sc_age_class:FnScope ["age"] ["age"] (defScope s_age_class):=⟨rfl,rfl,rfl,by decide +kernel,rfl,by decide +kernel,by decide +kernel⟩
theorem ok_age_class (T:Txt K mg A):FnOk P w K mg base CX0 1 A.f_age_class A.d_age_class ["age"] (sp_age_class A):=by
 refine (T.u_age_class.fn).ok sc_age_class (fun vs H Q E h=>?_) (fun cdv AA outer s H vs Q E hr h=>?_)
 ·obtain ⟨n,rfl,_⟩:=h
  rfl
 ·obtain ⟨n,rfl,k⟩:=h
  refine ⟨_,(pss_one (ps_ret (pe_bm0 PySem.F.plainAttrs_int PySem.F.slot_int_bit_length PySem.F.type_int_bit_length mt_bits (pv 0)))),?_⟩
  refine ⟨_,rfl,rfl,_,rfl,rfl,?_⟩
  rw [bits_nat]
  exact k
def sp_Rows___init__ (A:Adr):Sp:=fun vs H Q _=>∃ (p dx:Addr),vs=[.ref p]∧H p=some (.ins A.c_Rows dx []) ∧
 ∀ (l1 l2 l3 l4:Addr) (H':Hp),H l1=none→H l2=none→H l3=none→H l4=none→RowsAt A H' p l1 l2 l3 l4 (List.replicate 124 0) (List.replicate 124 0) (List.replicate 64 0) (List.replicate 64 0)→(∀ x,H x≠none→x≠p→H' x=H x)→Q .non H'
theorem sc_Rows___init__:FnScope ["self"] ["self"] (defScope s_Rows___init__):=⟨rfl,rfl,rfl,by decide +kernel,rfl,by decide +kernel,by decide +kernel⟩
theorem ok_Rows___init__ (T:Txt K mg A):FnOk P w K mg base CX0 1 A.f_Rows___init__ A.d_Rows___init__ ["self"] (sp_Rows___init__ A):=by
 refine (T.m_Rows___init__.fn).ok sc_Rows___init__ (fun vs H Q E h=>?_) (fun cdv AA outer s H vs Q E hr h=>?_)
 ·obtain ⟨p,dx,rfl,_⟩:=h
  rfl
 ·obtain ⟨p,dx,rfl,hp,k⟩:=h
  refine ⟨_,(pss_cons (ps_fld (pv 0) (pe_op op_rep (pe_lst (pa_cons pe_int pa_nil)) (pe_gint T.g_SIZE_CLASSES)) rfl)
   (pss_cons (ps_fld (pv 0) (pe_op op_rep (pe_lst (pa_cons pe_int pa_nil)) (pe_gint T.g_SIZE_CLASSES)) rfl)
   (pss_cons (ps_fld (pv 0) (pe_op op_rep (pe_lst (pa_cons pe_int pa_nil)) (pe_gint T.g_AGE_CLASSES)) rfl)
   (pss_one (ps_fld (pv 0) (pe_op op_rep (pe_lst (pa_cons pe_int pa_nil)) (pe_gint T.g_AGE_CLASSES)) rfl))))),?_⟩
  have frep:∀ n:Nat,(List.replicate n [V.int 0]).flatten=(List.replicate n (0:Int)).map V.int:=fun n=>by
   induction n with
   | zero=>rfl
   | succ n ih=>rw [List.replicate_succ,List.flatten_cons,ih,List.replicate_succ];rfl
  have hsl:=PySem.sizeLine_eq
  have row:∀ {H0:Hp}{ks:List Str}{us:List V}{l0 l:Addr} (m:Int),Ob H0 p A.c_Rows ks us→H0 l0=none→upd H0 l0 (.lst [V.int 0]) l=none →
    H0 l=none∧Ob (upd (upd H0 l0 (.lst [V.int 0])) l (.lst (List.replicate m.toNat [V.int 0]).flatten)) p A.c_Rows ks us∧upd (upd H0 l0 (.lst [V.int 0])) l (.lst (List.replicate m.toNat [V.int 0]).flatten) l=some (.lst ((List.replicate m.toNat (0:Int)).map V.int)) ∧
    ∀ x,H0 x≠none→upd (upd H0 l0 (.lst [V.int 0])) l (.lst (List.replicate m.toNat [V.int 0]).flatten) x=H0 x:=by
   intro H0 ks us l0 l m ho hl0 hl
   have ne:l≠l0:=fun e=>by rw [e,upd_same] at hl;cases hl
   have hl':H0 l=none:=by rw [upd_ne ne] at hl;exact hl
   have e1:∀ x,H0 x≠none→upd (upd H0 l0 (.lst [V.int 0])) l (.lst (List.replicate m.toNat [V.int 0]).flatten) x=H0 x:=fun x hx=>by
    rw [upd_ne (fun e=>hx (by rw [e];exact hl')),upd_ne (fun e=>hx (by rw [e];exact hl0))]
   exact ⟨hl',ho.same (e1 p (ob_some ho)),by rw [upd_same,frep],e1⟩
  have hp0:Ob H p A.c_Rows [] []:=⟨dx,hp⟩
  refine ⟨by show 1≤sizeLine;decide,fun m1 hm1=>⟨m1,(124:Int),_,rfl,rfl,upd_same,by decide,by decide,by show 1 * 124≤sizeLine;decide,fun l1 hl1=>?_⟩⟩
  obtain ⟨n1,o1,r1,e1⟩:=row 124 hp0 hm1 hl1
  generalize upd (upd _ m1 (.lst [V.int 0])) l1 (.lst (List.replicate (Int.toNat 124) [V.int 0]).flatten)=H1 at o1 r1 e1 ⊢
  refine ⟨_,rfl,nf_fld (ks:=[]) (vs:=[]) T.fd_Rows_size_made o1 rfl rfl (by decide +kernel) fun H2 h2 k2=>?_⟩
  have np1:l1≠p:=fun e=>by rw [e,hp] at n1;cases n1
  have r1':H2 l1=some (.lst ((List.replicate 124 (0:Int)).map V.int)):=by rw [k2 l1 np1];exact r1
  refine ⟨by show 1≤sizeLine;decide,fun m2 hm2=>⟨m2,(124:Int),_,rfl,rfl,upd_same,by decide,by decide,by show 1 * 124≤sizeLine;decide,fun l2 hl2=>?_⟩⟩
  obtain ⟨n2,o2,r2,e2⟩:=row 124 h2 hm2 hl2
  generalize upd (upd _ m2 (.lst [V.int 0])) l2 (.lst (List.replicate (Int.toNat 124) [V.int 0]).flatten)=H3 at o2 r2 e2 ⊢
  refine ⟨_,rfl,nf_fld T.fd_Rows_size_live o2 rfl rfl (by decide +kernel) fun H4 h4 k4=>?_⟩
  have np2:l2≠p:=fun e=>ob_some h2 (by rw [← e];exact n2)
  have n21:l1≠l2:=fun e=>by rw [e,n2] at r1';cases r1'
  have r1'':H4 l1=some (.lst ((List.replicate 124 (0:Int)).map V.int)):=by rw [k4 l1 np1,e2 l1 (by rw [r1'];simp)];exact r1'
  have r2':H4 l2=some (.lst ((List.replicate 124 (0:Int)).map V.int)):=by rw [k4 l2 np2];exact r2
  refine ⟨by show 1≤sizeLine;decide,fun m3 hm3=>⟨m3,(64:Int),_,rfl,rfl,upd_same,by decide,by decide,by show 1 * 64≤sizeLine;decide,fun l3 hl3=>?_⟩⟩
  obtain ⟨n3,o3,r3,e3⟩:=row 64 h4 hm3 hl3
  generalize upd (upd _ m3 (.lst [V.int 0])) l3 (.lst (List.replicate (Int.toNat 64) [V.int 0]).flatten)=H5 at o3 r3 e3 ⊢
  refine ⟨_,rfl,nf_fld T.fd_Rows_age_went o3 rfl rfl (by decide +kernel) fun H6 h6 k6=>?_⟩
  have np3:l3≠p:=fun e=>ob_some h4 (by rw [← e];exact n3)
  have n31:l1≠l3:=fun e=>by rw [e,n3] at r1'';cases r1''
  have n32:l2≠l3:=fun e=>by rw [e,n3] at r2';cases r2'
  have s1:H6 l1=some (.lst ((List.replicate 124 (0:Int)).map V.int)):=by rw [k6 l1 np1,e3 l1 (by rw [r1''];simp)];exact r1''
  have s2:H6 l2=some (.lst ((List.replicate 124 (0:Int)).map V.int)):=by rw [k6 l2 np2,e3 l2 (by rw [r2'];simp)];exact r2'
  have s3:H6 l3=some (.lst ((List.replicate 64 (0:Int)).map V.int)):=by rw [k6 l3 np3];exact r3
  refine ⟨by show 1≤sizeLine;decide,fun m4 hm4=>⟨m4,(64:Int),_,rfl,rfl,upd_same,by decide,by decide,by show 1 * 64≤sizeLine;decide,fun l4 hl4=>?_⟩⟩
  obtain ⟨n4,o4,r4,e4⟩:=row 64 h6 hm4 hl4
  generalize upd (upd _ m4 (.lst [V.int 0])) l4 (.lst (List.replicate (Int.toNat 64) [V.int 0]).flatten)=H7 at o4 r4 e4 ⊢
  refine ⟨_,rfl,nf_fld T.fd_Rows_age_bytes o4 rfl rfl (by decide +kernel) fun H8 h8 k8=>?_⟩
  have np4:l4≠p:=fun e=>ob_some h6 (by rw [← e];exact n4)
  have n41:l1≠l4:=fun e=>by rw [e,n4] at s1;cases s1
  have n42:l2≠l4:=fun e=>by rw [e,n4] at s2;cases s2
  have n43:l3≠l4:=fun e=>by rw [e,n4] at s3;cases s3
  have a2:∀ x,H x≠none→x≠p→H2 x=H x:=fun x hx hn=>by rw [k2 x hn,e1 x hx]
  have a4:∀ x,H x≠none→x≠p→H4 x=H x:=fun x hx hn=>by rw [k4 x hn,e2 x (by rw [a2 x hx hn];exact hx),a2 x hx hn]
  have a6:∀ x,H x≠none→x≠p→H6 x=H x:=fun x hx hn=>by rw [k6 x hn,e3 x (by rw [a4 x hx hn];exact hx),a4 x hx hn]
  have a8:∀ x,H x≠none→x≠p→H8 x=H x:=fun x hx hn=>by rw [k8 x hn,e4 x (by rw [a6 x hx hn];exact hx),a6 x hx hn]
  have z:∀ {Hh:Hp}{l:Addr},(∀ x,H x≠none→x≠p→Hh x=H x)→l≠p→Hh l=none→H l=none:=fun {Hh l} a hn hl=>by
   cases e:H l with
   | none=>rfl
   | some u=>rw [a l (by rw [e];simp) hn,e] at hl;cases hl
  refine k l1 l2 l3 l4 H8 n1 (z a2 np2 n2) (z a4 np3 n3) (z a6 np4 n4) ⟨h8,?_,?_,?_,?_,?_,by simp,by simp,by simp,by simp⟩ a8
  ·rw [k8 l1 np1,e4 l1 (by rw [s1];simp)];exact s1
  ·rw [k8 l2 np2,e4 l2 (by rw [s2];simp)];exact s2
  ·rw [k8 l3 np3,e4 l3 (by rw [s3];simp)];exact s3
  ·rw [k8 l4 np4];exact r4
  ·simp [n21,n31,n32,n41,n42,n43]
def sp_Rows_note_made (A:Adr):Sp:=fun vs H Q _=>∃ (p l1 l2 l3 l4:Addr) (a b c d:List Int) (z:Nat),vs=[.ref p,.int z]∧z<2 ^ 32∧RowsAt A H p l1 l2 l3 l4 a b c d ∧
 ∀ H':Hp,RowsAt A H' p l1 l2 l3 l4 (bumpI a (classOf z) 1) (bumpI b (classOf z) 1) c d→(∀ x,x≠l1→x≠l2→H' x=H x)→Q .non H'
theorem sc_Rows_note_made:FnScope ["self","size"] ["self","size"] (defScope s_Rows_note_made):=⟨rfl,rfl,rfl,by decide +kernel,rfl,by decide +kernel,by decide +kernel⟩
theorem ok_Rows_note_made (T:Txt K mg A):FnOk P w K mg base CX0 2 A.f_Rows_note_made A.d_Rows_note_made ["self","size"] (sp_Rows_note_made A):=by
 refine (T.m_Rows_note_made.fn).ok sc_Rows_note_made (fun vs H Q E h=>?_) (fun cdv AA outer s H vs Q E hr h=>?_)
 ·obtain ⟨p,l1,l2,l3,l4,a,b,c,d,z,rfl,_⟩:=h
  rfl
 ·obtain ⟨p,l1,l2,l3,l4,a,b,c,d,z,rfl,hz,R,k⟩:=h
  refine ⟨_,(pss_cons (ps_augS (pe_fld (pv 0) rfl) (pe_call (ok_size_class T) (hr.mono (by decide)) (by rfl) T.u_size_class.mg T.u_size_class.kp T.u_size_class.bi .nil pass0 (pa_cons (pv 1) pa_nil)) get_list pe_int ip_add set_list)
   (pss_one (ps_augS (pe_fld (pv 0) rfl) (pe_call (ok_size_class T) (hr.mono (by decide)) (by rfl) T.u_size_class.mg T.u_size_class.kp T.u_size_class.bi .nil pass0 (pa_cons (pv 1) pa_nil)) get_list pe_int ip_add set_list))),?_⟩
  have hc:=class_lt hz
  refine ⟨_,rfl,rd_fld T.fd_Rows_size_made R.ob rfl ⟨_,rfl,z,rfl,l1,_,classOf z,_,rfl,rfl,SqL.of R.h1,get_int R.n1 hc,_,_,rfl,rfl,l1,_,_,classOf z,rfl,rfl,R.h1,ixN_nat (by rw [List.length_map,R.n1];exact hc),?_⟩⟩
  rw [map_set_int]
  have R1:=R.set1 (a':=bumpI a (classOf z) 1) (by rw [bumpI_len];exact R.n1)
  refine ⟨_,rfl,rd_fld T.fd_Rows_size_live R1.ob rfl ⟨_,rfl,z,rfl,l2,_,classOf z,_,rfl,rfl,SqL.of R1.h2,get_int R1.n2 hc,_,_,rfl,rfl,l2,_,_,classOf z,rfl,rfl,R1.h2,ixN_nat (by rw [List.length_map,R1.n2];exact hc),?_⟩⟩
  rw [map_set_int]
  exact k _ (R1.set2 (a':=bumpI b (classOf z) 1) (by rw [bumpI_len];exact R1.n2)) fun x h1 h2=>by rw [upd_ne h2,upd_ne h1]
def sp_Rows_note_moved (A:Adr):Sp:=fun vs H Q _=>∃ (p l1 l2 l3 l4:Addr) (a b c d:List Int) (y z:Nat),vs=[.ref p,.int y,.int z]∧y<2 ^ 32∧z<2 ^ 32∧RowsAt A H p l1 l2 l3 l4 a b c d ∧
 ∀ H':Hp,RowsAt A H' p l1 l2 l3 l4 a (bumpI (bumpI b (classOf y) (-1)) (classOf z) 1) c d→(∀ x,x≠l2→H' x=H x)→Q .non H'
theorem sc_Rows_note_moved:FnScope ["self","old_size","new_size"] ["self","old_size","new_size"] (defScope s_Rows_note_moved):=⟨rfl,rfl,rfl,by decide +kernel,rfl,by decide +kernel,by decide +kernel⟩
theorem ok_Rows_note_moved (T:Txt K mg A):FnOk P w K mg base CX0 2 A.f_Rows_note_moved A.d_Rows_note_moved ["self","old_size","new_size"] (sp_Rows_note_moved A):=by
 refine (T.m_Rows_note_moved.fn).ok sc_Rows_note_moved (fun vs H Q E h=>?_) (fun cdv AA outer s H vs Q E hr h=>?_)
 ·obtain ⟨p,l1,l2,l3,l4,a,b,c,d,y,z,rfl,_⟩:=h
  rfl
 ·obtain ⟨p,l1,l2,l3,l4,a,b,c,d,y,z,rfl,hy,hz,R,k⟩:=h
  refine ⟨_,(pss_cons (ps_augS (pe_fld (pv 0) rfl) (pe_call (ok_size_class T) (hr.mono (by decide)) (by rfl) T.u_size_class.mg T.u_size_class.kp T.u_size_class.bi .nil pass0 (pa_cons (pv 1) pa_nil)) get_list pe_int ip_sub set_list)
   (pss_one (ps_augS (pe_fld (pv 0) rfl) (pe_call (ok_size_class T) (hr.mono (by decide)) (by rfl) T.u_size_class.mg T.u_size_class.kp T.u_size_class.bi .nil pass0 (pa_cons (pv 2) pa_nil)) get_list pe_int ip_add set_list))),?_⟩
  have hcy:=class_lt hy
  have hcz:=class_lt hz
  refine ⟨_,rfl,rd_fld T.fd_Rows_size_live R.ob rfl ⟨_,rfl,y,rfl,l2,_,classOf y,_,rfl,rfl,SqL.of R.h2,get_int R.n2 hcy,_,_,rfl,rfl,l2,_,_,classOf y,rfl,rfl,R.h2,ixN_nat (by rw [List.length_map,R.n2];exact hcy),?_⟩⟩
  rw [map_set_int]
  have R1:=R.set2 (a':=bumpI b (classOf y) (-1)) (by rw [bumpI_len];exact R.n2)
  have e1:b.set (classOf y) (b.getD (classOf y) 0 - 1)=bumpI b (classOf y) (-1):=by unfold bumpI;rw [Int.sub_eq_add_neg]
  rw [e1]
  refine ⟨_,rfl,rd_fld T.fd_Rows_size_live R1.ob rfl ⟨_,rfl,z,rfl,l2,_,classOf z,_,rfl,rfl,SqL.of R1.h2,get_int R1.n2 hcz,_,_,rfl,rfl,l2,_,_,classOf z,rfl,rfl,R1.h2,ixN_nat (by rw [List.length_map,R1.n2];exact hcz),?_⟩⟩
  rw [map_set_int]
  exact k _ (R1.set2 (a':=bumpI (bumpI b (classOf y) (-1)) (classOf z) 1) (by rw [bumpI_len];exact R1.n2)) fun x h2=>by rw [upd_ne h2,upd_ne h2]
def sp_Rows_note_went (A:Adr):Sp:=fun vs H Q _=>∃ (p l1 l2 l3 l4:Addr) (a b c d:List Int) (z g:Nat),vs=[.ref p,.int z,.int g]∧z<2 ^ 32∧g<2 ^ 63∧RowsAt A H p l1 l2 l3 l4 a b c d ∧
 ∀ H':Hp,RowsAt A H' p l1 l2 l3 l4 a (bumpI b (classOf z) (-1)) (bumpI c (ageClass g) 1) (bumpI d (ageClass g) z)→(∀ x,x≠l2→x≠l3→x≠l4→H' x=H x)→Q .non H'
theorem sc_Rows_note_went:FnScope ["self","size","age"] ["self","size","age"] (defScope s_Rows_note_went):=⟨rfl,rfl,rfl,by decide +kernel,rfl,by decide +kernel,by decide +kernel⟩
theorem ok_Rows_note_went (T:Txt K mg A):FnOk P w K mg base CX0 2 A.f_Rows_note_went A.d_Rows_note_went ["self","size","age"] (sp_Rows_note_went A):=by
 refine (T.m_Rows_note_went.fn).ok sc_Rows_note_went (fun vs H Q E h=>?_) (fun cdv AA outer s H vs Q E hr h=>?_)
 ·obtain ⟨p,l1,l2,l3,l4,a,b,c,d,z,g,rfl,_⟩:=h
  rfl
 ·obtain ⟨p,l1,l2,l3,l4,a,b,c,d,z,g,rfl,hz,hg,R,k⟩:=h
  refine ⟨_,(pss_cons (ps_augS (pe_fld (pv 0) rfl) (pe_call (ok_size_class T) (hr.mono (by decide)) (by rfl) T.u_size_class.mg T.u_size_class.kp T.u_size_class.bi .nil pass0 (pa_cons (pv 1) pa_nil)) get_list pe_int ip_sub set_list)
   (pss_cons (ps_augS (pe_fld (pv 0) rfl) (pe_call (ok_age_class T) (hr.mono (by decide)) (by rfl) T.u_age_class.mg T.u_age_class.kp T.u_age_class.bi .nil pass0 (pa_cons (pv 2) pa_nil)) get_list pe_int ip_add set_list)
   (pss_one (ps_augS (pe_fld (pv 0) rfl) (pe_call (ok_age_class T) (hr.mono (by decide)) (by rfl) T.u_age_class.mg T.u_age_class.kp T.u_age_class.bi .nil pass0 (pa_cons (pv 2) pa_nil)) get_list (pv 1) ip_add set_list)))),?_⟩
  have hc:=class_lt hz
  have ha:=age_lt hg
  refine ⟨_,rfl,rd_fld T.fd_Rows_size_live R.ob rfl ⟨_,rfl,z,rfl,l2,_,classOf z,_,rfl,rfl,SqL.of R.h2,get_int R.n2 hc,_,_,rfl,rfl,l2,_,_,classOf z,rfl,rfl,R.h2,ixN_nat (by rw [List.length_map,R.n2];exact hc),?_⟩⟩
  rw [map_set_int]
  have R1:=R.set2 (a':=bumpI b (classOf z) (-1)) (by rw [bumpI_len];exact R.n2)
  have e1:b.set (classOf z) (b.getD (classOf z) 0 - 1)=bumpI b (classOf z) (-1):=by unfold bumpI;rw [Int.sub_eq_add_neg]
  rw [e1]
  refine ⟨_,rfl,rd_fld T.fd_Rows_age_went R1.ob rfl ⟨_,rfl,g,rfl,l3,_,ageClass g,_,rfl,rfl,SqL.of R1.h3,get_int R1.n3 ha,_,_,rfl,rfl,l3,_,_,ageClass g,rfl,rfl,R1.h3,ixN_nat (by rw [List.length_map,R1.n3];exact ha),?_⟩⟩
  rw [map_set_int]
  have R2:=R1.set3 (a':=bumpI c (ageClass g) 1) (by rw [bumpI_len];exact R1.n3)
  refine ⟨_,rfl,rd_fld T.fd_Rows_age_bytes R2.ob rfl ⟨_,rfl,g,rfl,l4,_,ageClass g,_,rfl,rfl,SqL.of R2.h4,get_int R2.n4 ha,_,rfl,_,_,rfl,rfl,l4,_,_,ageClass g,rfl,rfl,R2.h4,ixN_nat (by rw [List.length_map,R2.n4];exact ha),?_⟩⟩
  rw [map_set_int]
  exact k _ (R2.set4 (a':=bumpI d (ageClass g) z) (by rw [bumpI_len];exact R2.n4)) fun x h2 h3 h4=>by rw [upd_ne h4,upd_ne h3,upd_ne h2]
def zipRows (a b:List Int):List (List Int):=(a.zip b).map fun x=>[x.1,x.2]
theorem tups_zip {H1 H2:Hp}{l:Addr}{a b:List Int}{ts:List Addr} (hl:ts.length=a.length) (hab:a.length=b.length) (ht:∀ (j:Nat) (t:Addr) (x y:V),ts[j]?=some t→(a.map V.int)[j]?=some x→(b.map V.int)[j]?=some y→H2 t=some (.tup [x,y])) (h2:H2 l=some (.lst (ts.map V.ref))):Tups H2 l (zipRows a b):=by
 refine ⟨ts.zip (zipRows a b),?_,?_,fun p hp=>?_⟩
 ·rw [h2]
  have e:(ts.zip (zipRows a b)).map (fun p=>V.ref p.1)=((ts.zip (zipRows a b)).map (·.1)).map V.ref:=by rw [List.map_map];rfl
  rw [e,List.map_fst_zip (by unfold zipRows;rw [List.length_map,List.length_zip];omega)]
 ·exact List.map_snd_zip (by unfold zipRows;rw [List.length_map,List.length_zip];omega)
 ·obtain ⟨j,hj⟩:=List.mem_iff_getElem?.mp hp
  rw [List.getElem?_zip_eq_some] at hj
  obtain ⟨h1,h3⟩:=hj
  unfold zipRows at h3
  rw [List.getElem?_map] at h3
  obtain ⟨q,hq,e⟩:=Option.map_eq_some_iff.mp h3
  rw [List.getElem?_zip_eq_some] at hq
  rw [← e]
  exact ht j p.1 (.int q.1) (.int q.2) h1 (by rw [List.getElem?_map,hq.1];rfl) (by rw [List.getElem?_map,hq.2];rfl)
def sp_Rows_by_size (A:Adr):Sp:=fun vs H Q _=>∃ (p l1 l2 l3 l4:Addr) (a b c d:List Int),vs=[.ref p]∧RowsAt A H p l1 l2 l3 l4 a b c d ∧
 ∀ (l:Addr) (H':Hp),H l=none→Tups H' l (zipRows a b)→(∀ x,H x≠none→H' x=H x)→Q (.ref l) H'
theorem sc_Rows_by_size:FnScope ["self"] ["self"] (defScope s_Rows_by_size):=⟨rfl,rfl,rfl,by decide +kernel,rfl,by decide +kernel,by decide +kernel⟩
theorem ok_Rows_by_size (T:Txt K mg A):FnOk P w K mg base CX0 1 A.f_Rows_by_size A.d_Rows_by_size ["self"] (sp_Rows_by_size A):=by
 refine (T.m_Rows_by_size.fn).ok sc_Rows_by_size (fun vs H Q E h=>?_) (fun cdv AA outer s H vs Q E hr h=>?_)
 ·obtain ⟨p,l1,l2,l3,l4,a,b,c,d,rfl,_⟩:=h
  rfl
 ·obtain ⟨p,l1,l2,l3,l4,a,b,c,d,rfl,R,k⟩:=h
  refine ⟨_,(pss_one (ps_ret (pe_listZip rfl (by rfl) T.b_list boot_list (by rfl) T.b_zip (pa_cons (pe_fld (pv 0) rfl) (pa_cons (pe_fld (pv 0) rfl) pa_nil))))),?_⟩
  refine ⟨_,rfl,rd_fld T.fd_Rows_size_made R.ob rfl ⟨_,rfl,rd_fld T.fd_Rows_size_live R.ob rfl ⟨l1,l2,_,_,rfl,SqL.of R.h1,SqL.of R.h2,by rw [List.length_map,List.length_map,R.n1,R.n2],fun l ts H2 hl hts _ ht h2 e2=>?_⟩⟩⟩
  rw [List.length_map] at hts
  exact k l H2 hl (tups_zip (H1:=H) hts (by rw [R.n1,R.n2]) ht h2) e2
def sp_Rows_by_age (A:Adr):Sp:=fun vs H Q _=>∃ (p l1 l2 l3 l4:Addr) (a b c d:List Int),vs=[.ref p]∧RowsAt A H p l1 l2 l3 l4 a b c d ∧
 ∀ (l:Addr) (H':Hp),H l=none→Tups H' l (zipRows c d)→(∀ x,H x≠none→H' x=H x)→Q (.ref l) H'
theorem sc_Rows_by_age:FnScope ["self"] ["self"] (defScope s_Rows_by_age):=⟨rfl,rfl,rfl,by decide +kernel,rfl,by decide +kernel,by decide +kernel⟩
theorem ok_Rows_by_age (T:Txt K mg A):FnOk P w K mg base CX0 1 A.f_Rows_by_age A.d_Rows_by_age ["self"] (sp_Rows_by_age A):=by
 refine (T.m_Rows_by_age.fn).ok sc_Rows_by_age (fun vs H Q E h=>?_) (fun cdv AA outer s H vs Q E hr h=>?_)
 ·obtain ⟨p,l1,l2,l3,l4,a,b,c,d,rfl,_⟩:=h
  rfl
 ·obtain ⟨p,l1,l2,l3,l4,a,b,c,d,rfl,R,k⟩:=h
  refine ⟨_,(pss_one (ps_ret (pe_listZip rfl (by rfl) T.b_list boot_list (by rfl) T.b_zip (pa_cons (pe_fld (pv 0) rfl) (pa_cons (pe_fld (pv 0) rfl) pa_nil))))),?_⟩
  refine ⟨_,rfl,rd_fld T.fd_Rows_age_went R.ob rfl ⟨_,rfl,rd_fld T.fd_Rows_age_bytes R.ob rfl ⟨l3,l4,_,_,rfl,SqL.of R.h3,SqL.of R.h4,by rw [List.length_map,List.length_map,R.n3,R.n4],fun l ts H2 hl hts _ ht h2 e2=>?_⟩⟩⟩
  rw [List.length_map] at hts
  exact k l H2 hl (tups_zip (H1:=H) hts (by rw [R.n3,R.n4]) ht h2) e2
end
end Bk
namespace Bk
open PySem L2
theorem nodup_lt_len:∀ (n:Nat) {l:List Nat},l.Nodup→(∀ x∈l,x<n)→l.length≤n
 | 0,l,_,h=>by
  cases l with
  | nil=>exact Nat.le_refl _
  | cons a r=>exact absurd (h a List.mem_cons_self) (Nat.not_lt_zero _)
 | n+1,l,hn,h=>by
  have h1:=nodup_lt_len n (l:=l.erase n) (hn.erase n) fun x hx=>by
   have h2:=h x (List.mem_of_mem_erase hx)
   have h3:x≠n:=((hn.mem_erase_iff).mp hx).1
   omega
  rw [List.length_erase] at h1
  split at h1<;>omega
theorem putK_keys {κ:Type} [DecidableEq κ] {kvs:List (κ × V)}{k:κ}{u:V} (v:V) (h:valV kvs k=some u):(putK kvs k v).map (·.1)=kvs.map (·.1):=by
 have hk:=valV_in h
 obtain ⟨p,hp,e⟩:=List.mem_map.mp hk
 unfold putK
 rw [if_pos (List.any_eq_true.mpr ⟨p,hp,decide_eq_true e⟩),List.map_map]
 refine List.map_congr_left fun q _=>?_
 show (if q.1=k then (q.1,v) else q).1=q.1
 split<;>rfl
structure PicksAt (A:Adr) (H:Hp) (p d:Addr) (rate off tot:Nat) (g:Nat→Nat × Nat):Prop where
 ob:Ob H p A.c_Picks K_Picks [.int rate,.int off,.int tot,.ref d]
 dict:∃ (kvs:List (Key × V)) (ns:List Nat),H d=some (.dK kvs)∧kvs.map (·.1)=ns.map (fun (n:Nat)=>Sum.inl (n:Int))∧ns.Nodup∧(∀ k∈ns,k<4096)∧(∀ k:Nat,k∈ns↔(g k).1≠0)∧(∀ k:Nat,(g k).1=0→(g k).2=0) ∧
  ∀ k:Nat,k∈ns→∃ t,valV kvs (Sum.inl (k:Int))=some (.ref t)∧H t=some (.tup [.int (g k).1,.int (g k).2])
theorem ob_nK {H:Hp}{p q C:Addr}{ks:List Str}{vs:List V}{kvs:List (Key × V)} (h:Ob H p C ks vs) (h':H q=some (.dK kvs)):p≠q:=by
 obtain ⟨dx,h⟩:=h
 exact ne_of h h' fun e=>by cases e
theorem valV_none {kvs:List (Key × V)}{ns:List Nat} (hk:kvs.map (·.1)=ns.map (fun (n:Nat)=>Sum.inl (n:Int))) {k:Nat} (h:k∉ns):valV kvs (Sum.inl (k:Int))=none:=by
 cases e:valV kvs (Sum.inl (k:Int):Key) with
 | none=>rfl
 | some v =>
  have:=valV_in e
  rw [hk] at this
  obtain ⟨n,hn,e2⟩:=List.mem_map.mp this
  have:n=k:=by have:=Sum.inl.inj e2;omega
  subst this
  exact absurd hn h
section
variable {P:Program}{w:World}{K:PySem.W.Frag}{mg:Str→Option Value}{base:Heap}{A:Adr}
theorem PicksAt.keep {H H':Hp}{p d:Addr}{rate off tot:Nat}{g:Nat→Nat × Nat} (R:PicksAt A H p d rate off tot g) (h1:H' p=H p) (h2:H' d=H d) (h3:∀ t xs,H t=some (.tup xs)→H' t=H t):PicksAt A H' p d rate off tot g:=by
 obtain ⟨kvs,ns,hd,a,b,c,e,f,t⟩:=R.dict
 exact ⟨R.ob.same h1,kvs,ns,by rw [h2];exact hd,a,b,c,e,f,fun k hk=>by
  obtain ⟨u,q1,q2⟩:=t k hk
  exact ⟨u,q1,by rw [h3 u _ q2];exact q2⟩⟩
def sp_Picks___init__ (A:Adr):Sp:=fun vs H Q _=>∃ (p dx:Addr),vs=[.ref p]∧H p=some (.ins A.c_Picks dx []) ∧
 ∀ (d:Addr) (H':Hp),H d=none→PicksAt A H' p d 0 0 0 (fun _=>(0,0))→(∀ x,H x≠none→x≠p→H' x=H x)→Q .non H'
theorem sc_Picks___init__:FnScope ["self"] ["self"] (defScope s_Picks___init__):=⟨rfl,rfl,rfl,by decide +kernel,rfl,by decide +kernel,by decide +kernel⟩
theorem ok_Picks___init__ (T:Txt K mg A):FnOk P w K mg base CX0 1 A.f_Picks___init__ A.d_Picks___init__ ["self"] (sp_Picks___init__ A):=by
 refine (T.m_Picks___init__.fn).ok sc_Picks___init__ (fun vs H Q E h=>?_) (fun cdv AA outer s H vs Q E hr h=>?_)
 ·obtain ⟨p,dx,rfl,_⟩:=h
  rfl
 ·obtain ⟨p,dx,rfl,hp,k⟩:=h
  refine ⟨_,(pss_cons (ps_fld (pv 0) pe_int rfl)
   (pss_cons (ps_fld (pv 0) pe_int rfl)
   (pss_cons (ps_fld (pv 0) pe_int rfl)
   (pss_one (ps_fld (pv 0) pe_dnewK rfl))))),?_⟩
  refine ⟨_,rfl,nf_fld (ks:=[]) (vs:=[]) T.fd_Picks_rate ⟨dx,hp⟩ rfl rfl (by decide +kernel) fun H1 h1 k1=>?_⟩
  refine ⟨_,rfl,nf_fld T.fd_Picks_unpicked h1 rfl rfl (by decide +kernel) fun H2 h2 k2=>?_⟩
  refine ⟨_,rfl,nf_fld T.fd_Picks_total h2 rfl rfl (by decide +kernel) fun H3 h3 k3=>?_⟩
  intro d hd
  have npd:p≠d:=fun e=>ob_some h3 (by rw [e];exact hd)
  refine ⟨_,rfl,nf_fld T.fd_Picks_by_node (Ob.upd h3 npd) rfl rfl (by decide +kernel) fun H4 h4 k4=>?_⟩
  have a3:∀ x,x≠p→H3 x=H x:=fun x hx=>by rw [k3 x hx,k2 x hx,k1 x hx]
  refine k d H4 (by rw [← a3 d npd.symm];exact hd) ⟨h4,[],[],by rw [k4 d npd.symm,upd_same],rfl,List.nodup_nil,fun k hk=>by simp at hk,fun k=>by simp,fun _ _=>rfl,fun k hk=>by simp at hk⟩ fun x hx hn=>?_
  rw [k4 x hn,upd_ne (fun e=>hx (by rw [e,← a3 d npd.symm];exact hd)),a3 x hn]
def sp_Picks_start (A:Adr):Sp:=fun vs H Q _=>∃ (p d:Addr) (rate off tot r:Nat) (g:Nat→Nat × Nat),vs=[.ref p,.int r]∧PicksAt A H p d rate off tot g ∧
 ∀ H':Hp,PicksAt A H' p d r 0 tot g→(∀ x,x≠p→H' x=H x)→Q .non H'
theorem sc_Picks_start:FnScope ["self","rate"] ["self","rate"] (defScope s_Picks_start):=⟨rfl,rfl,rfl,by decide +kernel,rfl,by decide +kernel,by decide +kernel⟩
theorem ok_Picks_start (T:Txt K mg A):FnOk P w K mg base CX0 1 A.f_Picks_start A.d_Picks_start ["self","rate"] (sp_Picks_start A):=by
 refine (T.m_Picks_start.fn).ok sc_Picks_start (fun vs H Q E h=>?_) (fun cdv AA outer s H vs Q E hr h=>?_)
 ·obtain ⟨p,d,rate,off,tot,r,g,rfl,_⟩:=h
  rfl
 ·obtain ⟨p,d,rate,off,tot,r,g,rfl,R,k⟩:=h
  refine ⟨_,(pss_cons (ps_fld (pv 0) (pv 1) rfl)
   (pss_one (ps_fld (pv 0) pe_int rfl))),?_⟩
  obtain ⟨kvs,ns,hd,a,b,c,e,f,t⟩:=R.dict
  refine ⟨_,rfl,_,rfl,wr_fld T.fd_Picks_rate R.ob rfl fun H1 h1 k1=>?_⟩
  refine ⟨_,rfl,wr_fld T.fd_Picks_unpicked h1 rfl fun H2 h2 k2=>?_⟩
  have k12:∀ x,x≠p→H2 x=H x:=fun x hx=>by rw [k2 x hx,k1 x hx]
  refine k H2 ⟨h2,kvs,ns,by rw [k12 d (ob_nK R.ob hd).symm];exact hd,a,b,c,e,f,fun k hk=>?_⟩ k12
  obtain ⟨u,q1,q2⟩:=t k hk
  have:u≠p:=by
   obtain ⟨dx,hp⟩:=R.ob
   exact (ne_of hp q2 fun z=>by cases z).symm
  exact ⟨u,q1,by rw [k12 u this];exact q2⟩
def sp_Picks_count_picked (A:Adr):Sp:=fun vs H Q _=>∃ (p d:Addr) (rate off tot k m:Nat) (g:Nat→Nat × Nat),vs=[.ref p,.int k,.int m]∧PicksAt A H p d rate off tot g∧rate<2 ^ 32∧k<4096 ∧
 ∀ H':Hp,PicksAt A H' p d rate off (tot+m) (fun j=>if j=k then ((g j).1+m,(g j).2+m * rate) else g j)→(∀ x,H x≠none→x≠p→x≠d→H' x=H x)→Q .non H'
theorem sc_Picks_count_picked:FnScope ["self","k","more","before"] ["self","k","more"] (defScope s_Picks_count_picked):=⟨rfl,rfl,rfl,by decide +kernel,rfl,by decide +kernel,by decide +kernel⟩
theorem ok_Picks_count_picked (T:Txt K mg A):FnOk P w K mg base CX0 1 A.f_Picks_count_picked A.d_Picks_count_picked ["self","k","more"] (sp_Picks_count_picked A):=by
 refine (T.m_Picks_count_picked.fn).ok sc_Picks_count_picked (fun vs H Q E h=>?_) (fun cdv AA outer s H vs Q E hr h=>?_)
 ·obtain ⟨p,d,rate,off,tot,k,m,g,rfl,_⟩:=h
  rfl
 ·obtain ⟨p,d,rate,off,tot,k,m,g,rfl,R,hr2,hk,kk⟩:=h
  refine ⟨_,(pss_cons (ps_if (pt_cmpR op_eq (pv 2) pe_int (nomark _))
    (pss_one ps_retN)
    pss_nil)
   (pss_cons (ps_set (i:=3) sc_Picks_count_picked.nd rfl (Or.inl rfl) (pe_dget2 (hu_of hr) (pe_fld (pv 0) rfl) (pv 1) (pe_tup (pa_cons pe_int (pa_cons pe_int pa_nil))) ⟨rfl,rfl,rfl,rfl⟩))
   (pss_cons (ps_dput (hu_of hr) (pe_fld (pv 0) rfl) (pv 1) (pe_tup (pa_cons (pe_op op_add (pe_ix ix_tup (pv 3) pe_int (fun _ _=>rfl)) (pv 2)) (pa_cons (pe_op op_add (pe_ix ix_tup (pv 3) pe_int (fun _ _=>rfl)) (pe_op op_mul (pv 2) (pe_fld (pv 0) rfl))) pa_nil))) rfl)
   (pss_one (ps_fldaug (pv 0) (pv 2) in_add))))),?_⟩
  obtain ⟨kvs,ns,hd,a,b,c,e,f,t⟩:=R.dict
  have npd:p≠d:=ob_nK R.ob hd
  have hsl:=PySem.sizeLine_eq
  have hlen:kvs.length≤4096:=by
   have h1:=nodup_lt_len 4096 b c
   have:=congrArg List.length a
   simp at this
   omega
  refine ⟨_,rfl,rfl,_,rfl,?_⟩
  rw [dec_int]
  refine ite2 (fun c0=>?_) (fun c0=>?_)
  ·have c0:(m:Int)=0:=beq_iff_eq.mp c0
   have e0:m=0:=by omega
   subst e0
   have eg:(fun j=>if j=k then ((g j).1+0,(g j).2+0 * rate) else g j)=g:=by
    funext j
    by_cases ej:j=k
    ·rw [if_pos ej];simp
    ·rw [if_neg ej]
   have:=kk H
   rw [eg] at this
   exact this R fun _ _ _ _=>rfl
  ·have c0:¬ (m:Int)=0:=fun q=>c0 (beq_iff_eq.mpr q)
   refine ⟨_,rfl,rd_fld T.fd_Picks_by_node R.ob rfl ⟨d,rfl,.inl ⟨kvs,.inl hd⟩,_,rfl,by show 2≤sizeLine;decide,fun t0 ht0=>?_⟩⟩
   have e0:∀ x,H x≠none→upd H t0 (.tup [.int 0,.int 0]) x=H x:=fun x hx=>upd_ne fun e=>hx (by rw [e];exact ht0)
   have hd0:upd H t0 (.tup [.int 0,.int 0]) d=some (.dK kvs):=by rw [e0 d (by rw [hd];simp)];exact hd
   have ob0:Ob (upd H t0 (.tup [.int 0,.int 0])) p A.c_Picks K_Picks [.int rate,.int off,.int tot,.ref d]:=R.ob.same (e0 p (ob_some R.ob))
   have hb:∃ tb,(valV kvs (Sum.inl (k:Int):Key)).getD (.ref t0)=.ref tb∧upd H t0 (.tup [.int 0,.int 0]) tb=some (.tup [.int (g k).1,.int (g k).2]):=by
    by_cases hkn:k∈ns
    ·obtain ⟨u,q1,q2⟩:=t k hkn
     exact ⟨u,by rw [q1];rfl,by rw [e0 u (by rw [q2];simp)];exact q2⟩
    ·have h0:(g k).1=0:=Decidable.byContradiction fun z=>hkn ((e k).mpr z)
     refine ⟨t0,by rw [valV_none a hkn];rfl,?_⟩
     rw [upd_same,h0,f k h0];rfl
   obtain ⟨tb,hb1,hb2⟩:=hb
   generalize upd H t0 (.tup [.int 0,.int 0])=H0 at e0 hd0 ob0 hb2 ⊢
   refine ⟨_,DGet.k (k:=Sum.inl (k:Int)) hd0,?_⟩
   rw [hb1]
   refine ⟨_,rfl,tb,_,_,_,rfl,rfl,.inl (.inl hb2),atI_nat (j:=0) (v:=.int ((g k).1:Int)) rfl,_,rfl,_,_,rfl,rfl,_,rfl,tb,_,_,_,rfl,rfl,.inl (.inl hb2),atI_nat (j:=1) (v:=.int ((g k).2:Int)) rfl,_,rfl,_,rfl,rd_fld T.fd_Picks_rate ob0 rfl ⟨_,_,rfl,rfl,.inr ⟨by omega,by omega⟩,_,_,rfl,rfl,by show 2≤sizeLine;decide,fun t1 ht1=>?_⟩⟩
   have et:(.tup [.int ((g k).1+(m:Int)),.int ((g k).2+(m:Int) * (rate:Int))]:HO)=.tup [.int (((g k).1+m:Nat):Int),.int (((g k).2+m * rate:Nat):Int)]:=by
    rw [Int.natCast_add,Int.natCast_add,Int.natCast_mul]
   have e1:∀ x,H0 x≠none→upd H0 t1 (.tup [.int (((g k).1+m:Nat):Int),.int (((g k).2+m * rate:Nat):Int)]) x=H0 x:=fun x hx=>upd_ne fun e=>hx (by rw [e];exact ht1)
   have ht1':upd H0 t1 (.tup [.int (((g k).1+m:Nat):Int),.int (((g k).2+m * rate:Nat):Int)]) t1=some (.tup [.int (((g k).1+m:Nat):Int),.int (((g k).2+m * rate:Nat):Int)]):=upd_same
   have goal:∀ H1:Hp,(∀ x,H0 x≠none→H1 x=H0 x)→H1 t1=some (.tup [.int (((g k).1+m:Nat):Int),.int (((g k).2+m * rate:Nat):Int)])→∀ D:Ends,D.nx=(fun _ H'=>Q .non H') →
     (sFldAug K (tVar 0) (tVar 2) rAdd "total") D [some (.ref p),some (.int k),some (.int m),some (.ref tb)] (upd H1 d (.dK (putK kvs (Sum.inl (k:Int)) (.ref t1)))):=by
    intro H1 k1 hh1 D hD
    have hd1:H1 d=some (.dK kvs):=by rw [k1 d (by rw [hd0];simp)];exact hd0
    have ob1:Ob H1 p A.c_Picks K_Picks [.int rate,.int off,.int tot,.ref d]:=ob0.same (k1 p (ob_some ob0))
    refine ⟨_,rfl,au_fld (m:=(tot:Int)) (j:=(m:Int)) T.fd_Picks_total (ob1.upd npd) rfl rfl (fun R r=>⟨_,rfl,r⟩) fun H2 h2 k2=>?_⟩
    rw [hD]
    have kA:∀ x,H x≠none→x≠p→x≠d→H2 x=H x:=fun x hx n1 n2=>by rw [k2 x n1,upd_ne n2,k1 x (by rw [e0 x hx];exact hx),e0 x hx]
    have n1d:t1≠d:=fun z=>by rw [z,hd0] at ht1;cases ht1
    have n1p:t1≠p:=fun z=>ob_some ob0 (by rw [← z];exact ht1)
    have htp:∀ u xs,H u=some (.tup xs)→u≠p∧u≠d:=fun u xs hu=>by
     obtain ⟨dx,hp⟩:=R.ob
     exact ⟨(ne_of hp hu fun z=>by cases z).symm,(ne_of hd hu fun z=>by cases z).symm⟩
    refine kk H2 ⟨by rw [Int.natCast_add];exact h2,_,if k∈ns then ns else ns++[k],by rw [k2 d npd.symm,upd_same],?_,?_,?_,?_,?_,?_⟩ kA
    ·by_cases hkn:k∈ns
     ·rw [if_pos hkn,← a]
      obtain ⟨u,q1,_⟩:=t k hkn
      exact putK_keys _ q1
     ·rw [if_neg hkn,putK_new _ (valV_none a hkn),List.map_append,List.map_append,a];rfl
    ·by_cases hkn:k∈ns
     ·rw [if_pos hkn];exact b
     ·rw [if_neg hkn,List.nodup_append]
      exact ⟨b,by simp,fun x hx y hy=>by rw [List.mem_singleton.mp hy];intro z;rw [z] at hx;exact hkn hx⟩
    ·intro j hj
     by_cases hkn:k∈ns
     ·rw [if_pos hkn] at hj;exact c j hj
     ·rw [if_neg hkn] at hj
      rcases List.mem_append.mp hj with hj | hj
      ·exact c j hj
      ·rw [List.mem_singleton.mp hj];exact hk
    ·intro j
     by_cases ej:j=k
     ·subst ej
      rw [if_pos rfl]
      have:((g j).1+m)≠0:=by omega
      simp only [ne_eq,this,not_false_eq_true,iff_true]
      by_cases hkn:j∈ns
      ·rw [if_pos hkn];exact hkn
      ·rw [if_neg hkn];simp
     ·rw [if_neg ej,← e j]
      by_cases hkn:k∈ns
      ·rw [if_pos hkn]
      ·rw [if_neg hkn];simp [ej]
    ·intro j
     by_cases ej:j=k
     ·rw [if_pos ej];intro z;have z:(g j).1+m=0:=z;omega
     ·rw [if_neg ej];exact f j
    ·intro j hj
     by_cases ej:j=k
     ·subst ej
      rw [if_pos rfl]
      exact ⟨t1,by rw [valV_put,if_pos rfl],by rw [k2 t1 n1p,upd_ne n1d];exact hh1⟩
     ·rw [if_neg ej]
      have hjn:j∈ns:=by
       by_cases hkn:k∈ns
       ·rw [if_pos hkn] at hj;exact hj
       ·rw [if_neg hkn] at hj
        rcases List.mem_append.mp hj with hj | hj
        ·exact hj
        ·exact absurd (List.mem_singleton.mp hj) ej
      obtain ⟨u,q1,q2⟩:=t j hjn
      obtain ⟨u1,u2⟩:=htp u _ q2
      refine ⟨u,by rw [valV_put,if_neg (fun z=>ej (by have:=Sum.inl.inj z;omega))];exact q1,?_⟩
      rw [kA u (by rw [q2];simp) u1 u2];exact q2
   have hd1:upd H0 t1 (.tup [.int ((g k).1+(m:Int)),.int ((g k).2+(m:Int) * (rate:Int))]) d=some (.dK kvs):=by rw [et,e1 d (by rw [hd0];simp)];exact hd0
   have ob1:Ob (upd H0 t1 (.tup [.int ((g k).1+(m:Int)),.int ((g k).2+(m:Int) * (rate:Int))])) p A.c_Picks K_Picks [.int rate,.int off,.int tot,.ref d]:=by rw [et];exact ob0.same (e1 p (ob_some ob0))
   refine ⟨_,rfl,rd_fld T.fd_Picks_by_node ob1 rfl ⟨_,rfl,d,_,rfl,DPut.k (k:=Sum.inl (k:Int)) hd1 (by omega),?_⟩⟩
   exact goal _ (by rw [et];exact e1) (by rw [et];exact ht1') _ rfl
def sp_Picks_note_made (A:Adr):Sp:=fun vs H Q _=>∃ (p d:Addr) (rate off tot k z:Nat) (g:Nat→Nat × Nat),vs=[.ref p,.int k,.int z]∧PicksAt A H p d rate off tot g∧rate<2 ^ 32∧k<4096 ∧
 ∀ (H':Hp) (m off':Nat),m=(if rate=0 then 0 else (off+z) / rate)→off'=(if rate=0 then off else (off+z) % rate)→PicksAt A H' p d rate off' (tot+m) (fun j=>if j=k then ((g j).1+m,(g j).2+m * rate) else g j)→(∀ x,H x≠none→x≠p→x≠d→H' x=H x)→Q .non H'
theorem sc_Picks_note_made:FnScope ["self","k","size","run"] ["self","k","size"] (defScope s_Picks_note_made):=⟨rfl,rfl,rfl,by decide +kernel,rfl,by decide +kernel,by decide +kernel⟩
theorem ok_Picks_note_made (T:Txt K mg A):FnOk P w K mg base CX0 2 A.f_Picks_note_made A.d_Picks_note_made ["self","k","size"] (sp_Picks_note_made A):=by
 refine (T.m_Picks_note_made.fn).ok sc_Picks_note_made (fun vs H Q E h=>?_) (fun cdv AA outer s H vs Q E hr h=>?_)
 ·obtain ⟨p,d,rate,off,tot,k,z,g,rfl,_⟩:=h
  rfl
 ·obtain ⟨p,d,rate,off,tot,k,z,g,rfl,R,hr2,hk,kk⟩:=h
  refine ⟨_,(pss_cons (ps_if (pt_cmpR op_eq (pe_fld (pv 0) rfl) pe_int (nomark _))
    (pss_one ps_retN)
    pss_nil)
   (pss_cons (ps_set (i:=3) sc_Picks_note_made.nd rfl (Or.inl rfl) (pe_op op_add (pe_fld (pv 0) rfl) (pv 2)))
   (pss_cons (ps_fld (pv 0) (pe_op op_mod (pv 3) (pe_fld (pv 0) rfl)) rfl)
   (pss_one (ps_expr (pe_meth (pv 0) T.cl_Picks T.m_Picks_count_picked.me (ok_Picks_count_picked T) (hr.mono (by decide)) T.m_Picks_count_picked.bi .nil pass0 (pa_cons (pv 1) (pa_cons (pe_op op_fdivW (pv 3) (pe_fld (pv 0) rfl)) pa_nil)))))))),?_⟩
  refine ⟨_,rfl,rd_fld T.fd_Picks_rate R.ob rfl ⟨rfl,_,rfl,?_⟩⟩
  rw [dec_int]
  refine ite2 (fun c0=>?_) (fun c0=>?_)
  ·have c0:(rate:Int)=0:=beq_iff_eq.mp c0
   have e0:rate=0:=by omega
   have eg:(fun j=>if j=k then ((g j).1+0,(g j).2+0 * rate) else g j)=g:=by
    funext j
    by_cases ej:j=k
    ·rw [if_pos ej];simp
    ·rw [if_neg ej]
   have:=kk H 0 off (by rw [if_pos e0]) (by rw [if_pos e0])
   rw [eg] at this
   exact this R fun _ _ _ _=>rfl
  ·have c0:¬ (rate:Int)=0:=fun q=>c0 (beq_iff_eq.mpr q)
   have hne:rate≠0:=by omega
   refine ⟨_,rfl,rd_fld T.fd_Picks_unpicked R.ob rfl ⟨_,rfl,_,_,rfl,rfl,?_⟩⟩
   refine ⟨_,rfl,_,rfl,rd_fld T.fd_Picks_rate R.ob rfl ⟨_,_,rfl,rfl,by show (0:Int)<rate;omega,_,rfl,wr_fld T.fd_Picks_unpicked R.ob rfl fun H1 h1 k1=>?_⟩⟩
   have R1:PicksAt A H1 p d rate ((off+z) % rate) tot g:=by
    obtain ⟨kvs,ns,hd,a,b,c,e,f,t⟩:=R.dict
    have em:((off:Int)+(z:Int)) % (rate:Int)=(((off+z) % rate:Nat):Int):=by rw [Int.natCast_emod,Int.natCast_add]
    refine ⟨by rw [← em];exact h1,kvs,ns,by rw [k1 d (ob_nK R.ob hd).symm];exact hd,a,b,c,e,f,fun k hk=>?_⟩
    obtain ⟨u,q1,q2⟩:=t k hk
    have:u≠p:=by
     obtain ⟨dx,hp⟩:=R.ob
     exact (ne_of hp q2 fun z=>by cases z).symm
    exact ⟨u,q1,by rw [k1 u this];exact q2⟩
   refine ⟨_,rfl,rd_meth R1.ob (by decide +kernel) ⟨_,rfl,_,rfl,_,rfl,rd_fld T.fd_Picks_rate R1.ob rfl ⟨_,_,rfl,rfl,⟨by show (0:Int)<rate;omega,by show (rate:Int)<18446744073709551616;omega⟩,p,d,rate,_,tot,k,(off+z) / rate,g,?_,R1,hr2,hk,fun H2 R2 k2=>?_⟩⟩⟩
   ·show [V.ref p,V.int k,V.int (((off:Int)+(z:Int)) / (rate:Int))]=_
    have:((off:Int)+(z:Int)) / (rate:Int)=(((off+z) / rate:Nat):Int):=by
     rw [Int.natCast_ediv,Int.natCast_add]
    rw [this]
   ·refine kk H2 _ _ (by rw [if_neg hne]) (by rw [if_neg hne]) R2 fun x hx n1 n2=>?_
    rw [k2 x (by rw [k1 x n1];exact hx) n1 n2,k1 x n1]
def sp_Picks_of_nodes (A:Adr):Sp:=fun vs H Q _=>∃ (p d:Addr) (rate off tot:Nat) (g:Nat→Nat × Nat),vs=[.ref p]∧PicksAt A H p d rate off tot g ∧
 ∀ (l:Addr) (H':Hp) (ms:List Nat),H l=none→ms.Pairwise (·<·)→(∀ k,k∈ms↔(g k).1≠0)→ms.length≤4096→Tups H' l (ms.map fun (k:Nat)=>[(k:Int),((g k).1:Int),((g k).2:Int)])→(∀ x,H x≠none→H' x=H x)→Q (.ref l) H'
theorem sc_Picks_of_nodes:FnScope ["self","k"] ["self"] (defScope s_Picks_of_nodes):=⟨rfl,rfl,rfl,by decide +kernel,rfl,by decide +kernel,by decide +kernel⟩
theorem ok_Picks_of_nodes (T:Txt K mg A):FnOk P w K mg base CX0 1 A.f_Picks_of_nodes A.d_Picks_of_nodes ["self"] (sp_Picks_of_nodes A):=by
 refine (T.m_Picks_of_nodes.fn).ok sc_Picks_of_nodes (fun vs H Q E h=>?_) (fun cdv AA outer s H vs Q E hr h=>?_)
 ·obtain ⟨p,d,rate,off,tot,g,rfl,_⟩:=h
  rfl
 ·obtain ⟨p,d,rate,off,tot,g,rfl,R,kk⟩:=h
  refine ⟨_,(pss_one (ps_ret (pe_lc (own:=[("k",1)]) (g:=(gName 1)) (te:=(tTup (tCons (tVar 1) (tCons (tOp (rIxT K) (tDGet (tFld K (tVar 0) "by_node") (tVar 1)) (tC (.int 0))) (tCons (tOp (rIxT K) (tDGet (tFld K (tVar 0) "by_node") (tVar 1)) (tC (.int 1))) tNil))))) rfl sc_Picks_of_nodes.nd (pi_list (pe_callB (cr_sortedD rfl) (by rfl) T.b_sorted boot_sorted (pa_cons (pe_fld (pv 0) rfl) pa_nil))) ⟨rfl,by decide +kernel,(show ∀ p∈([("k",1)]:List (Str × Nat)),(["self","k"]:List Str)[p.2]?=some p.1 by decide +kernel),(show ∀ y∈(_:List (Str × NameKind)),y.2=NameKind.free→(defScope s_Picks_of_nodes).names.lookup y.1=some NameKind.cell∨(defScope s_Picks_of_nodes).names.lookup y.1=some NameKind.free by decide +kernel),(show ∀ y∈(_:List (Str × NameKind)),y.2=NameKind.local∨y.2=NameKind.cell→y.1∈([("k",1)]:List (Str × Nat)).map (·.1)∨y.1∉(["self","k"]:List Str) by decide +kernel)⟩ (fun _ _ _ _ _=>(pg_name (i:=1) sc_Picks_of_nodes.nd rfl (Or.inl rfl))) (fun _ _ _ _ _=>pts_nil) (fun _ _ _ _ _=>(pe_tup (pa_cons (pv 1) (pa_cons (pe_ix ix_tup (pe_dget (hu_of hr) (pe_fld (pv 0) rfl) (pv 1) (fun _ _=>rfl)) pe_int (fun _ _=>rfl)) (pa_cons (pe_ix ix_tup (pe_dget (hu_of hr) (pe_fld (pv 0) rfl) (pv 1) (fun _ _=>rfl)) pe_int (fun _ _=>rfl)) pa_nil)))))))),?_⟩
  obtain ⟨kvs,ns,hd,a,b,c,e,f,t⟩:=R.dict
  have hsl:=PySem.sizeLine_eq
  refine ⟨_,rfl,rd_fld T.fd_Picks_by_node R.ob rfl ⟨d,kvs,ns.map fun (n:Nat)=>(n:Int),rfl,hd,by rw [a,List.map_map];rfl,fun ns' l1 hp hsrt hl1=>?_⟩⟩
  obtain ⟨ms,hms,rfl⟩:=perm_map hp ns rfl
  have hnd:ms.Nodup:=hms.nodup_iff.mpr b
  have hpw:ms.Pairwise (·<·):=by
   rw [List.pairwise_map] at hsrt
   rw [List.nodup_iff_pairwise_ne] at hnd
   refine (hsrt.and hnd).imp fun {x y} h=>?_
   have:=h.1
   have:=h.2
   omega
  have hlen:ms.length≤4096:=nodup_lt_len 4096 hnd fun x hx=>c x (hms.mem_iff.mp hx)
  have e1:∀ x,H x≠none→upd H l1 (.lst ((ms.map fun (n:Nat)=>(n:Int)).map V.int)) x=H x:=fun x hx=>upd_ne fun e=>hx (by rw [e];exact hl1)
  have h1:upd H l1 (.lst ((ms.map fun (n:Nat)=>(n:Int)).map V.int)) l1=some (.lst ((ms.map fun (n:Nat)=>(n:Int)).map V.int)):=upd_same
  generalize upd H l1 (.lst ((ms.map fun (n:Nat)=>(n:Int)).map V.int))=H1 at e1 h1 ⊢
  refine ⟨l1,rfl,⟨_,SqL.of h1⟩,fun D hD=>?_⟩
  have nlD:l1≠D:=ne_of_none h1 hD
  have hD0:H D=none:=by
   cases z:H D with
   | none=>rfl
   | some u=>rw [e1 D (by rw [z];simp),z] at hD;cases hD
  refine lc_list (xs:=(ms.map fun (n:Nat)=>(n:Int)).map V.int) (fun i H'=>(∀ x,H1 x≠none→H' x=H1 x)∧Tups H' D ((ms.take i).map fun (k:Nat)=>[(k:Int),((g k).1:Int),((g k).2:Int)])) ?_ ?_ ?_ ?_
  ·exact ⟨fun x hx=>upd_ne fun e=>hx (by rw [e];exact hD),Tups.nil upd_same⟩
  ·rintro i H' _ ⟨h,_⟩
   exact SqL.of (by rw [h l1 (by rw [h1];simp)];exact h1)
  ·rintro i x H' hx ⟨q1,q2⟩
   rw [List.map_map,List.getElem?_map] at hx
   obtain ⟨k,hk,rfl⟩:=Option.map_eq_some_iff.mp hx
   have hkn:k∈ns:=hms.mem_iff.mp (List.mem_of_getElem? hk)
   have hi:i<ms.length:=(List.getElem?_eq_some_iff.mp hk).1
   obtain ⟨u,v1,v2⟩:=t k hkn
   have q0:∀ x,H x≠none→H' x=H x:=fun x hx=>by rw [q1 x (by rw [e1 x hx];exact hx),e1 x hx]
   have ob':Ob H' p A.c_Picks K_Picks [.int rate,.int off,.int tot,.ref d]:=R.ob.same (q0 p (ob_some R.ob))
   have hd':H' d=some (.dK kvs):=by rw [q0 d (by rw [hd];simp)];exact hd
   have hu':H' u=some (.tup [.int (g k).1,.int (g k).2]):=by rw [q0 u (by rw [v2];simp)];exact v2
   have gk:=DGet.k (k:=Sum.inl (k:Int)) hd'
   rw [v1] at gk
   obtain ⟨xs,hxs,hln⟩:=q2.len
   rw [List.length_map,List.length_take] at hln
   refine ⟨rfl,_,rfl,_,rfl,rd_fld T.fd_Picks_by_node ob' rfl ⟨_,rfl,d,.ref u,rfl,gk,u,_,_,_,rfl,rfl,.inl (.inl hu'),atI_nat (j:=0) (v:=.int ((g k).1:Int)) rfl,_,rfl,rd_fld T.fd_Picks_by_node ob' rfl ⟨_,rfl,d,.ref u,rfl,gk,u,_,_,_,rfl,rfl,.inl (.inl hu'),atI_nat (j:=1) (v:=.int ((g k).2:Int)) rfl,by show 3≤sizeLine;decide,fun t2 ht2=>?_⟩⟩⟩
   have nlt:D≠t2:=fun e=>by rw [← e,hxs] at ht2;cases ht2
   refine ⟨xs,by rw [upd_ne nlt];exact hxs,by omega,fun x hx=>?_,?_⟩
   ·have hq:=q1 x hx
    rw [upd_ne (fun e=>hx (by rw [e];exact hD)),upd_ne (fun e=>hx (by rw [← hq,e];exact ht2)),hq]
   ·rw [List.take_add_one,hk,List.map_append]
    exact q2.push hxs ht2 upd_same (by rw [upd_ne nlt.symm,upd_same];rfl) fun x hx n=>by rw [upd_ne n,upd_ne fun e=>hx (by rw [e];exact ht2)]
  ·rintro H' ⟨q1,q2⟩
   rw [List.length_map,List.length_map,List.take_length] at q2
   exact kk D H' ms hD0 hpw (fun k=>by rw [hms.mem_iff];exact e k) hlen q2 fun x hx=>by rw [q1 x (by rw [e1 x hx];exact hx),e1 x hx]
end
end Bk
namespace Bk
open PySem L2
open Sh28 (Piece hits holdsByte)
theorem perm_of_sub {α:Type}:∀ {l1 l2:List α},l1.Nodup→(∀ x∈l1,x∈l2)→l2.length≤l1.length→l1.Perm l2
 | [],l2,_,_,h=>by
  have:l2=[]:=List.eq_nil_of_length_eq_zero (by simpa using h)
  rw [this]
 | a::l1,l2,hn,hs,hl=>by
  obtain ⟨s,t,rfl⟩:=List.append_of_mem (hs a List.mem_cons_self)
  obtain ⟨h1,h2⟩:=List.nodup_cons.mp hn
  have ih:=perm_of_sub (l1:=l1) (l2:=s++t) h2 (fun x hx=>by
   have:=hs x (List.mem_cons_of_mem _ hx)
   rw [List.mem_append,List.mem_cons] at this
   rw [List.mem_append]
   rcases this with h | h | h
   ·exact .inl h
   ·subst h;exact absurd hx h1
   ·exact .inr h) (by simp at hl ⊢;omega)
  exact (ih.cons a).trans List.perm_middle.symm
theorem valV_mem {κ:Type} [DecidableEq κ] {kvs:List (κ × V)}{k:κ}{v:V} (h:valV kvs k=some v):(k,v)∈kvs:=by
 unfold valV at h
 obtain ⟨p,hp,e⟩:=Option.map_eq_some_iff.mp h
 have h1:=List.mem_of_find?_eq_some hp
 have h2:=List.find?_some hp
 have h2:p.1=k:=of_decide_eq_true h2
 rw [← h2,← e];exact h1
section
variable {P:Program}{w:World}{K:PySem.W.Frag}{mg:Str→Option Value}{base:Heap}{A:Adr}
theorem PcsAt.kept {H H':Hp}{p d l:Addr}{L:List (Addr × Piece)}{xs:List Int} (R:PcsAt A H p d l L xs) (h1:H' p=H p) (h2:H' d=H d) (h3:H' l=H l) (h4:∀ x∈L,H' x.1=H x.1):PcsAt A H' p d l L xs :=
 ⟨R.ob.same h1,by rw [h2];exact R.dict,by rw [h3];exact R.lst,R.pl,R.dis,R.num,fun x hx=>(R.obs x hx).same (h4 x hx),R.nd,R.few⟩
theorem PcsAt.all {H H':Hp}{p d l:Addr}{L:List (Addr × Piece)}{xs:List Int} (R:PcsAt A H p d l L xs) (k:∀ x,H x≠none→H' x=H x):PcsAt A H' p d l L xs:=by
 obtain ⟨kvs,hd,_⟩:=R.dict
 exact R.kept (k p (ob_some R.ob)) (k d (by rw [hd];simp)) (k l (by rw [R.lst];simp)) fun x hx=>k x.1 (ob_some (R.obs x hx))
def sp_Pieces_living (A:Adr):Sp:=fun vs H Q _=>∃ (p d l:Addr) (L:List (Addr × Piece)) (xs:List Int),vs=[.ref p]∧PcsAt A H p d l L xs ∧
 ∀ (r:Addr) (H':Hp) (L':List (Addr × Piece)),H r=none→L'.Perm L→H' r=some (.lst (L'.map fun x=>V.ref x.1))→(∀ x,H x≠none→H' x=H x)→Q (.ref r) H'
theorem sc_Pieces_living:FnScope ["self"] ["self"] (defScope s_Pieces_living):=⟨rfl,rfl,rfl,by decide +kernel,rfl,by decide +kernel,by decide +kernel⟩
theorem ok_Pieces_living (T:Txt K mg A):FnOk P w K mg base CX0 1 A.f_Pieces_living A.d_Pieces_living ["self"] (sp_Pieces_living A):=by
 refine (T.m_Pieces_living.fn).ok sc_Pieces_living (fun vs H Q E h=>?_) (fun cdv AA outer s H vs Q E hr h=>?_)
 ·obtain ⟨p,d,l,L,xs,rfl,_⟩:=h
  rfl
 ·obtain ⟨p,d,l,L,xs,rfl,R,k⟩:=h
  refine ⟨_,(pss_one (ps_ret (pe_callTy (call_listVals rfl) (by rfl) T.b_list boot_list (pa_cons (pe_dvals (pe_fld (pv 0) rfl)) pa_nil)))),?_⟩
  obtain ⟨kvs,hd,hn,hl,hv⟩:=R.dict
  refine ⟨_,rfl,rd_fld T.fd_Pieces_by_place R.ob rfl ⟨d,kvs,rfl,hd,fun v hvn=>⟨v,d,kvs,rfl,upd_same,by rw [upd_ne (ne_of_none hd hvn)];exact hd,fun r hr'=>?_⟩⟩⟩
  have nrv:r≠v:=fun e=>by rw [e,upd_same] at hr';cases hr'
  have hr0:H r=none:=by rw [upd_ne nrv] at hr';exact hr'
  have hperm:(L.map fun x=>((Sum.inl (x.2.place:Int):Key),V.ref x.1)).Perm kvs:=by
   refine perm_of_sub ?_ (fun q hq=>?_) (by rw [List.length_map,hl];exact Nat.le_refl _)
   ·rw [List.nodup_iff_pairwise_ne,List.pairwise_map]
    have h1:=R.nd
    rw [List.nodup_iff_pairwise_ne,List.pairwise_map] at h1
    exact h1.imp fun {a b} h e=>h (V.ref.inj (Prod.mk.inj e).2)
   ·obtain ⟨x,hx,rfl⟩:=List.mem_map.mp hq
    exact valV_mem ((hv _ _).mpr ⟨x,hx,rfl,rfl⟩)
  obtain ⟨L',h1,h2⟩:=perm_map hperm.symm L rfl
  refine k r _ L' hr0 h1 ?_ fun x hx=>by rw [upd_ne (fun e=>hx (by rw [e];exact hr0)),upd_ne (fun e=>hx (by rw [e];exact hvn))]
  rw [upd_same,h2,List.map_map];rfl
def sp_Pieces_eldest (A:Adr):Sp:=fun vs H Q _=>∃ (p d l:Addr) (L:List (Addr × Piece)) (xs:List Int) (k:Nat),vs=[.ref p,.int k]∧PcsAt A H p d l L xs∧BmH A H∧LamTab H A.t_Pieces_eldest lq_Pieces_eldest lp_Pieces_eldest ∧
 ∀ (r:Addr) (H':Hp) (L':List (Addr × Piece)),H r=none→L'.Perm L→L'.Pairwise (fun x y=>x.2.number<y.2.number)→H' r=some (.lst ((L'.take k).map fun x=>V.ref x.1))→LamTab H' A.t_Pieces_eldest lq_Pieces_eldest lp_Pieces_eldest→(∀ x,H x≠none→x≠A.t_Pieces_eldest→H' x=H x)→Q (.ref r) H'
theorem sc_Pieces_eldest:FnScope ["self","k"] ["self","k"] (defScope s_Pieces_eldest):=⟨rfl,rfl,rfl,by decide +kernel,rfl,by decide +kernel,by decide +kernel⟩
theorem ok_Pieces_eldest (T:Txt K mg A):FnOk P w K mg base CX0 3 A.f_Pieces_eldest A.d_Pieces_eldest ["self","k"] (sp_Pieces_eldest A):=by
 refine okC (T.m_Pieces_eldest.fn) sc_Pieces_eldest (fun vs H Q E h=>?_) (fun cdv hcdv AA outer s H vs Q E hr h=>?_)
 ·obtain ⟨p,d,l,L,xs,k,rfl,_⟩:=h
  rfl
 ·obtain ⟨p,d,l,L,xs,k,rfl,R,hbm,hlt,kk⟩:=h
  refine ⟨_,(pss_one (ps_ret (pe_slice sl_list (pe_sortedKey (bm:=A.a_bm) (hr.mono (by decide)) rfl (by rfl) T.b_sorted (pe_meth0 (pv 0) T.cl_Pieces T.m_Pieces_living.me (ok_Pieces_living T) (hr.mono (by decide)) T.m_Pieces_living.bi .nil pass0) (hcdv.symm.trans T.lc_Pieces_eldest) T.lh_Pieces_eldest rfl key_fld rfl (by decide +kernel) rfl rfl rfl) po_none (po_some (pv 1))))),?_⟩
  refine ⟨_,rfl,rd_meth R.ob (by decide +kernel) ⟨p,d,l,L,xs,rfl,R,fun r1 H1 L1 hr1 hp1 h1 e1=>?_⟩⟩
  have R1:=(R.all e1).perm hp1.symm
  have hbm1:BmH A H1:=by unfold BmH;rw [e1 _ (by rw [show H A.a_bm=_ from hbm];simp)];exact hbm
  obtain ⟨tps,htp,htc⟩:=hlt
  have hlt1:LamTab H1 A.t_Pieces_eldest lq_Pieces_eldest lp_Pieces_eldest:=⟨tps,by rw [e1 _ (by rw [htp];simp)];exact htp,htc.elim .inl fun ⟨c,e,hc⟩=>.inr ⟨c,e,by rw [e1 _ (by rw [hc];simp)];exact hc⟩⟩
  have nP:∀ q∈L1,q.1≠A.t_Pieces_eldest:=fun q hq=>by
   obtain ⟨_,h,_⟩:=hlt1
   obtain ⟨dx,ho⟩:=R1.obs q hq
   exact ne_of ho h fun e=>by cases e
  let g:Addr × Piece→Int × V:=fun q=>((q.2.number:Int),V.ref q.1)
  refine ⟨r1,L1.map fun q=>V.ref q.1,L1.map fun q=>(q.2.number:Int),rfl,SqL.of h1,⟨T.bm_m,T.bm_1,T.bm_2,A.o_bm,hbm1,T.bm_3,T.bm_4,T.bm_5⟩,hlt1,by rw [List.length_map,List.length_map],fun H2 same i v k0 hv hk0=>?_,fun qs0 D H2 p1 p2 _ hD hlt2 same hD2=>?_⟩
  ·rw [List.getElem?_map] at hv hk0
   cases e:L1[i]? with
   | none=>rw [e] at hv;cases hv
   | some q =>
    rw [e] at hv hk0
    cases hv;cases hk0
    have hq:=List.mem_of_getElem? e
    have ho:=R1.obs q hq
    obtain ⟨dx,ho2⟩:=ho.same (same q.1 (nP q hq) (ob_some ho))
    exact ⟨q.1,A.c_Piece,dx,_,rfl,ho2,T.fd_Piece_number.cl,T.fd_Piece_number.no,fz_get T.fd_Piece_number.ix rfl⟩
  ·have ez:(L1.map fun q=>(q.2.number:Int)).zip (L1.map fun q=>V.ref q.1)=L1.map g:=by rw [List.zip_map']
   rw [ez] at p1
   obtain ⟨qs,hq1,rfl⟩:=perm_map p1 L1 rfl
   have hpw:qs.Pairwise fun x y=>x.2.number<y.2.number:=by
    rw [List.pairwise_map] at p2
    have hnum:qs.Pairwise fun x y=>x.2.number≠y.2.number:=by
     have:=R1.num
     rw [Nums,List.pairwise_map] at this
     exact hq1.symm.pairwise this fun {a b} h=>h.symm
    refine (p2.and hnum).imp fun {x y} h=>?_
    have h1:(x.2.number:Int)≤y.2.number:=h.1
    have h2:=h.2
    omega
   have em:(qs.map g).map (·.2)=qs.map fun q=>V.ref q.1:=by rw [List.map_map];rfl
   rw [em] at hD2
   refine ⟨_,rfl,_,rfl,D,_,rfl,SqL.of hD2,fun r hr'=>?_⟩
   rw [cut_take]
   have eA:∀ x,H x≠none→x≠A.t_Pieces_eldest→H2 x=H x:=fun x hx hn=>by rw [same x hn (by rw [e1 x hx];exact hx),e1 x hx]
   have h2P:H2 A.t_Pieces_eldest≠none:=by
    obtain ⟨_,h,_⟩:=hlt2
    rw [h];simp
   have e2:∀ x,H2 x≠none→upd H2 r (.lst ((qs.map fun q=>V.ref q.1).take k)) x=H2 x:=fun x hx=>upd_ne fun e=>hx (by rw [e];exact hr')
   have hl0:H r=none:=by
    cases e:H r with
    | none=>rfl
    | some u =>
     by_cases ep:r=A.t_Pieces_eldest
     ·rw [ep] at hr';exact absurd hr' h2P
     ·rw [eA r (by rw [e];simp) ep,e] at hr';cases hr'
   refine kk r _ qs hl0 (hq1.trans hp1) hpw (by rw [upd_same,List.map_take]) ?_ fun x hx hn=>?_
   ·obtain ⟨tps2,htp2,htc2⟩:=hlt2
    exact ⟨tps2,by rw [e2 _ h2P];exact htp2,htc2.elim .inl fun ⟨c,e,hc⟩=>.inr ⟨c,e,by rw [e2 _ (by rw [hc];simp)];exact hc⟩⟩
   ·rw [e2 x (by rw [eA x hx hn];exact hx),eA x hx hn]
def sp_Pieces_holder (A:Adr):Sp:=fun vs H Q _=>∃ (p d l:Addr) (L:List (Addr × Piece)) (xs:List Int) (b:Nat),vs=[.ref p,.int b]∧PcsAt A H p d l L xs ∧
 (∀ x∈L,holdsByte x.2 b=true→Q (.ref x.1) H)∧((∀ x∈L,holdsByte x.2 b=false)→Q .non H)
theorem sc_Pieces_holder:FnScope ["self","at","behind","piece"] ["self","at"] (defScope s_Pieces_holder):=⟨rfl,rfl,rfl,by decide +kernel,rfl,by decide +kernel,by decide +kernel⟩
theorem ok_Pieces_holder (T:Txt K mg A):FnOk P w K mg base CX0 2 A.f_Pieces_holder A.d_Pieces_holder ["self","at"] (sp_Pieces_holder A):=by
 refine (T.m_Pieces_holder.fn).ok sc_Pieces_holder (fun vs H Q E h=>?_) (fun cdv AA outer s H vs Q E hr h=>?_)
 ·obtain ⟨p,d,l,L,xs,b,rfl,_⟩:=h
  rfl
 ·obtain ⟨p,d,l,L,xs,b,rfl,R,k1,k2⟩:=h
  refine ⟨_,(pss_cons (ps_set (i:=2) sc_Pieces_holder.nd rfl (Or.inl rfl) (pe_meth (pv 0) T.cl_Pieces T.m_Pieces_rank.me (ok_Pieces_rank T) (hr.mono (by decide)) T.m_Pieces_rank.bi .nil pass0 (pa_cons (pe_op op_add (pv 1) pe_int) pa_nil)))
   (pss_cons (ps_if (pt_cmpR op_eq (pv 2) pe_int (nomark _))
    (pss_one (ps_ret pe_non))
    pss_nil)
   (pss_cons (ps_set (i:=3) sc_Pieces_holder.nd rfl (Or.inl rfl) (pe_dget (hu_of hr) (pe_fld (pv 0) rfl) (pe_ix ix_list (pe_fld (pv 0) rfl) (pe_op op_sub (pv 2) pe_int) (fun _ _=>rfl)) (fun _ _=>rfl)))
   (pss_one (ps_ret (pe_ifExp (pt_cmpR op_lt (pv 1) (pe_op op_add (pe_fld (pv 3) rfl) (pe_fld (pv 3) rfl)) (nomark _)) (pv 3) pe_non)))))),?_⟩
  obtain ⟨kvs,hd,hn,hl,hv⟩:=R.dict
  refine ⟨_,rfl,rd_meth R.ob (by decide +kernel) ⟨_,rfl,_,_,rfl,rfl,p,d,l,_,xs,rfl,R.ob,R.lst,R.pl.srt,fun r hr'=>?_⟩⟩
  have hb:∀ x:Piece,holdsByte x b=true↔x.place≤b∧b<x.place+x.size:=fun x=>by unfold holdsByte;rw [Bool.and_eq_true,decide_eq_true_eq,decide_eq_true_eq]
  have hrl:=hr'.le
  refine ⟨_,rfl,rfl,_,rfl,?_⟩
  rw [dec_int]
  refine ite2 (fun c=>?_) (fun c=>?_)
  ·have c:(r:Int)=0:=beq_iff_eq.mp c
   refine k2 fun x hx=>?_
   rw [Bool.eq_false_iff]
   intro z
   obtain ⟨i,hi⟩:=R.pl.of x.2 (List.mem_map.mpr ⟨x,hx,rfl⟩)
   have:=hr'.hi i _ (by omega) hi
   have:=((hb x.2).mp z).1
   omega
  ·have c:¬ (r:Int)=0:=fun q=>c (beq_iff_eq.mpr q)
   obtain ⟨y,hy⟩:∃ y,xs[r - 1]?=some y:=⟨xs[r - 1],List.getElem?_eq_getElem (by omega)⟩
   obtain ⟨q,hq,eq⟩:=R.pl.to (r - 1) y hy
   obtain ⟨x,hx,rfl⟩:=List.mem_map.mp hq
   have hyb:=hr'.lo (r - 1) y (by omega) hy
   refine ⟨_,rfl,rd_fld T.fd_Pieces_by_place R.ob rfl ⟨_,rfl,rd_fld T.fd_Pieces_places R.ob rfl ⟨_,rfl,_,_,rfl,rfl,l,_,_,_,rfl,rfl,SqL.of R.lst,at_of (j:=r - 1) (v:=.int y) (by omega) (by rw [List.getElem?_map,hy];rfl),d,.ref x.1,rfl,?_,?_⟩⟩⟩
   ·have:=DGet.k (k:=Sum.inl y) hd
    rw [(hv y _).mpr ⟨x,hx,eq,rfl⟩] at this
    exact this
   ·have ho:=R.obs x hx
    refine ⟨_,rfl,_,rfl,rd_fld T.fd_Piece_place ho rfl ⟨_,rfl,rd_fld T.fd_Piece_size ho rfl ⟨_,_,rfl,rfl,_,_,rfl,rfl,_,rfl,?_⟩⟩⟩
    refine ite2 (fun c2=>?_) (fun c2=>?_)
    ·have c2:(b:Int)<(x.2.place:Int)+(x.2.size:Int):=of_decide_eq_true c2
     exact ⟨_,rfl,k1 x hx ((hb x.2).mpr ⟨by omega,by omega⟩)⟩
    ·have c2:¬ (b:Int)<(x.2.place:Int)+(x.2.size:Int):=fun q=>c2 (decide_eq_true q)
     refine k2 fun z hz=>?_
     rw [Bool.eq_false_iff]
     intro hh
     obtain ⟨h1,h2⟩:=(hb z.2).mp hh
     have hzm:z.2∈L.map (·.2):=List.mem_map.mpr ⟨z,hz,rfl⟩
     obtain ⟨i,hi⟩:=R.pl.of z.2 hzm
     have hir:i<r:=Nat.lt_of_not_le fun n=>by
      have:=hr'.hi i _ n hi
      omega
     by_cases e:i=r - 1
     ·rw [e,hy] at hi
      have e2:z.2=x.2:=dis_place R.dis hzm hq (by have:=Option.some.inj hi;omega)
      rw [e2] at h2
      omega
     ·have hlt:=srt_lt R.pl.srt hi hy (by omega)
      have ap:=dis_of R.dis hzm hq (by omega)
      unfold Apart at ap
      omega
end
end Bk
namespace Bk
open Sh28
theorem weight_perm {l l':List (Nat × Nat)} (h:l.Perm l'):weight l=weight l':=by unfold weight;exact (h.map _).sum_nat
theorem weight_app (l l':List (Nat × Nat)):weight (l++l')=weight l+weight l':=by unfold weight;rw [List.map_append,List.sum_append]
theorem weight_filter_le (q:Nat × Nat→Bool):∀ l:List (Nat × Nat),weight (l.filter q)≤weight l
 | []=>Nat.le_refl _
 | a::l=>by
  have ih:=weight_filter_le q l
  have e:∀ (x:Nat × Nat) (r:List (Nat × Nat)),weight (x::r)=x.2+weight r:=fun x r=>by unfold weight;rw [List.map_cons,List.sum_cons]
  rw [List.filter_cons]
  split
  ·rw [e,e];omega
  ·rw [e];omega
theorem share_found {L L':List (Nat × Nat)}{p i:Nat}{x:Nat × Nat} (hp:L'.Perm L) (hs:L'.Pairwise fun a b=>a.1≤b.1) (hx:L'[i]?=some x) (h1:10000 * weight (L'.take i)<p * weight L) (h2:p * weight L≤10000 * weight (L'.take (i+1))):shareOf L p=some x.1:=by
 have hil:=(List.getElem?_eq_some_iff.mp hx).1
 have hw:∀ v,weight (L.filter fun y=>decide (y.1≤v))=weight (L'.filter fun y=>decide (y.1≤v)):=fun v=>weight_perm ((hp.filter _).symm)
 have hsplit:L'.take i++L'.drop i=L':=List.take_append_drop i L'
 have low:∀ v,v<x.1→¬ p * weight L≤10000 * weight (L.filter fun y=>decide (y.1≤v)):=fun v hv hc=>by
  rw [hw v,← hsplit,List.filter_append] at hc
  have hd:(L'.drop i).filter (fun y=>decide (y.1≤v))=[]:=by
   rw [List.filter_eq_nil_iff]
   intro y hy
   obtain ⟨j,hj⟩:=List.mem_iff_getElem?.mp hy
   rw [List.getElem?_drop] at hj
   have hxy:x.1≤y.1:=by
    by_cases e:j=0
    ·subst e
     rw [Nat.add_zero,hx] at hj
     cases hj;exact Nat.le_refl _
    ·obtain ⟨hj1,ej⟩:=List.getElem?_eq_some_iff.mp hj
     obtain ⟨hx1,ex⟩:=List.getElem?_eq_some_iff.mp hx
     have:=List.pairwise_iff_getElem.mp hs i (i+j) hx1 hj1 (by omega)
     rw [ex,ej] at this
     exact this
   rw [decide_eq_true_eq]
   omega
  rw [hd,List.append_nil] at hc
  have:=weight_filter_le (fun y=>decide (y.1≤v)) (L'.take i)
  omega
 have high:p * weight L≤10000 * weight (L.filter fun y=>decide (y.1≤x.1)):=by
  rw [hw x.1]
  have hsub:weight (L'.take (i+1))≤weight (L'.filter fun y=>decide (y.1≤x.1)):=by
   have e1:(L'.take (i+1)).filter (fun y=>decide (y.1≤x.1))=L'.take (i+1):=by
    rw [List.filter_eq_self]
    intro y hy
    obtain ⟨j,hj⟩:=List.mem_iff_getElem?.mp hy
    have hjl:j<i+1:=by have:=(List.getElem?_eq_some_iff.mp hj).1;rw [List.length_take] at this;omega
    rw [List.getElem?_take_of_lt hjl] at hj
    rw [decide_eq_true_eq]
    by_cases e:j=i
    ·subst e;rw [hx] at hj;cases hj;exact Nat.le_refl _
    ·obtain ⟨hj1,ej⟩:=List.getElem?_eq_some_iff.mp hj
     obtain ⟨hx1,ex⟩:=List.getElem?_eq_some_iff.mp hx
     have:=List.pairwise_iff_getElem.mp hs j i hj1 hx1 (by omega)
     rw [ex,ej] at this
     exact this
   have e2:L'.filter (fun y=>decide (y.1≤x.1))=L'.take (i+1)++(L'.drop (i+1)).filter (fun y=>decide (y.1≤x.1)):=by
    conv=>lhs;rw [← List.take_append_drop (i+1) L',List.filter_append,e1]
   rw [e2,weight_app];omega
  omega
 unfold shareOf
 have hsv:(sortBy (fun (a b:Nat)=>decide (a<b)) (L.map fun x=>x.1)).Pairwise (·≤·):=by
  have key:∀ (v:Nat) (l:List Nat),l.Pairwise (·≤·)→(insertBy (fun (a b:Nat)=>decide (a<b)) v l).Pairwise (·≤·):=by
   intro v l
   induction l with
   | nil=>intro _;simp [insertBy]
   | cons y l ih =>
    intro h
    obtain ⟨h1,h2⟩:=List.pairwise_cons.mp h
    unfold insertBy
    by_cases e:decide (v<y)=true
    ·rw [if_pos e]
     have e:v<y:=of_decide_eq_true e
     refine List.pairwise_cons.mpr ⟨fun z hz=>?_,h⟩
     rcases List.mem_cons.mp hz with rfl | hz
     ·omega
     ·have:=h1 z hz;omega
    ·rw [if_neg e]
     have e:¬ v<y:=fun q=>e (decide_eq_true q)
     refine List.pairwise_cons.mpr ⟨fun z hz=>?_,ih h2⟩
     rcases List.mem_cons.mp ((insertBy_perm _ v l).mem_iff.mp hz) with rfl | hz
     ·omega
     ·exact h1 z hz
  generalize L.map (fun x=>x.1)=vs
  induction vs with
  | nil=>exact List.Pairwise.nil
  | cons v vs ih=>exact key v _ ih
 have hmem:x.1∈sortBy (fun (a b:Nat)=>decide (a<b)) (L.map fun x=>x.1):=by
  rw [(sortBy_perm _ _).mem_iff]
  exact List.mem_map.mpr ⟨x,hp.mem_iff.mp (List.mem_of_getElem? hx),rfl⟩
 generalize sortBy (fun (a b:Nat)=>decide (a<b)) (L.map fun x=>x.1)=S at hsv hmem
 induction S with
 | nil=>simp at hmem
 | cons v S ih =>
  obtain ⟨g1,g2⟩:=List.pairwise_cons.mp hsv
  rw [List.find?_cons]
  by_cases e:p * weight L≤10000 * weight (L.filter fun y=>decide (y.1≤v))
  ·rw [decide_eq_true e]
   have hv:¬ v<x.1:=fun z=>low v z e
   rcases List.mem_cons.mp hmem with h | h
   ·rw [h]
   ·have:=g1 _ h
    have:v=x.1:=by omega
    rw [this]
  ·rw [decide_eq_false e]
   rcases List.mem_cons.mp hmem with h | h
   ·rw [h] at high;exact absurd high e
   ·exact ih g2 h
end Bk
namespace Bk
open PySem L2
section
variable {P:Program}{w:World}{K:PySem.W.Frag}{mg:Str→Option Value}{base:Heap}{A:Adr}
def sp_joined (A:Adr):Sp:=fun vs H Q _=>∃ (l:Addr) (rows:List (List Int)),vs=[.ref l]∧Tups H l rows∧rows.flatten.length≤16777216 ∧
 ∀ (r:Addr) (H':Hp),H r=none→H' r=some (.lst (rows.flatten.map V.int))→(∀ x,H x≠none→H' x=H x)→Q (.ref r) H'
theorem sc_joined:FnScope ["rows","numbers","row"] ["rows"] (defScope s_joined):=⟨rfl,rfl,rfl,by decide +kernel,rfl,by decide +kernel,by decide +kernel⟩
theorem ok_joined (T:Txt K mg A):FnOk P w K mg base CX0 1 A.f_joined A.d_joined ["rows"] (sp_joined A):=by
 refine (T.u_joined.fn).ok sc_joined (fun vs H Q E h=>?_) (fun cdv AA outer s H vs Q E hr h=>?_)
 ·obtain ⟨l,rows,rfl,_⟩:=h
  rfl
 ·obtain ⟨l,rows,rfl,ht,hz,k⟩:=h
  refine ⟨_,(pss_cons (ps_set (i:=1) sc_joined.nd rfl (Or.inl rfl) (pe_lst pa_nil))
   (pss_cons (ps_for PassesOwn.never rfl (pi_list (pv 0)) (pg_name (i:=2) sc_joined.nd rfl (Or.inl rfl))
    (pss_one (ps_expr (pe_bm PySem.F.plainAttrs_list PySem.F.slot_list_extend PySem.F.type_list_extend mt_extendT (pv 1) (pa_cons (pv 2) pa_nil)))))
   (pss_one (ps_ret (pv 1))))),?_⟩
  have hsl:=PySem.sizeLine_eq
  obtain ⟨ps,hps,hrows,htups⟩:=ht
  refine ⟨by decide,fun r hr'=>?_⟩
  have e0:∀ x,H x≠none→upd H r (.lst []) x=H x:=fun x hx=>upd_ne fun e=>hx (by rw [e];exact hr')
  have nlr:l≠r:=fun e=>by rw [← e,hps] at hr';cases hr'
  refine ⟨_,rfl,l,rfl,⟨_,SqL.of (by rw [e0 l (by rw [hps];simp)];exact hps)⟩,for_list (xs:=ps.map fun p=>V.ref p.1) (fun i σ H'=>∃ v:Option V,σ=[some (.ref l),some (.ref r),v]∧H' r=some (.lst (((ps.take i).map (·.2)).flatten.map V.int))∧∀ x,H x≠none→H' x=H x) ⟨none,rfl,upd_same,e0⟩ ?_ ?_ ?_⟩
  ·rintro i σ H' _ ⟨v,_,_,q⟩
   exact SqL.of (by rw [q l (by rw [hps];simp)];exact hps)
  ·rintro i x σ H' hx ⟨v,rfl,q1,q2⟩
   rw [List.getElem?_map] at hx
   obtain ⟨q,hq,rfl⟩:=Option.map_eq_some_iff.mp hx
   have htq:=htups q (List.mem_of_getElem? hq)
   have htq':H' q.1=some (.tup (q.2.map V.int)):=by rw [q2 q.1 (by rw [htq];simp)];exact htq
   have etk:((ps.take (i+1)).map (·.2)).flatten=((ps.take i).map (·.2)).flatten++q.2:=by rw [List.take_add_one,hq,List.map_append,List.flatten_append];simp
   have hle:(((ps.take (i+1)).map (·.2)).flatten).length≤rows.flatten.length:=by
    rw [← hrows]
    conv=>rhs;rw [← List.take_append_drop (i+1) ps,List.map_append,List.flatten_append,List.length_append]
    omega
   rw [etk,List.length_append] at hle
   refine ⟨_,rfl,.inl ⟨rfl,_,SqL.of q1⟩,_,rfl,r,q.1,_,_,rfl,rfl,q1,htq',by rw [List.length_map,List.length_map];omega,_,rfl,?_,fun x hx=>?_⟩
   ·rw [upd_same,etk,List.map_append]
   ·rw [upd_ne (fun e=>hx (by rw [e];exact hr')),q2 x hx]
  ·rintro σ H' ⟨v,rfl,q1,q2⟩
   rw [List.length_map,List.take_length,hrows] at q1
   exact ⟨_,rfl,k r H' hr' q1 q2⟩
def sp_counted (A:Adr):Sp:=fun vs H Q _=>∃ (l:Addr) (rows:List (List Int)),vs=[.ref l]∧Tups H l rows∧rows.flatten.length<16777216 ∧
 ∀ (r:Addr) (H':Hp),H r=none→H' r=some (.lst (((rows.length:Int)::rows.flatten).map V.int))→(∀ x,H x≠none→H' x=H x)→Q (.ref r) H'
theorem sc_counted:FnScope ["rows"] ["rows"] (defScope s_counted):=⟨rfl,rfl,rfl,by decide +kernel,rfl,by decide +kernel,by decide +kernel⟩
theorem ok_counted (T:Txt K mg A):FnOk P w K mg base CX0 2 A.f_counted A.d_counted ["rows"] (sp_counted A):=by
 refine (T.u_counted.fn).ok sc_counted (fun vs H Q E h=>?_) (fun cdv AA outer s H vs Q E hr h=>?_)
 ·obtain ⟨l,rows,rfl,_⟩:=h
  rfl
 ·obtain ⟨l,rows,rfl,ht,hz,k⟩:=h
  refine ⟨_,(pss_one (ps_ret (pe_op op_cat (pe_lst (pa_cons (pe_callB call_len_seq (by rfl) T.b_len PySem.boot_len (pa_cons (pv 0) pa_nil)) pa_nil)) (pe_call (ok_joined T) (hr.mono (by decide)) (by rfl) T.u_joined.mg T.u_joined.kp T.u_joined.bi .nil pass0 (pa_cons (pv 0) pa_nil))))),?_⟩
  have hsl:=PySem.sizeLine_eq
  obtain ⟨xs,hxs,hlen⟩:=ht.len
  refine ⟨_,rfl,l,_,rfl,.inl (SqL.of hxs),by show 1≤sizeLine;decide,fun l1 hl1=>?_⟩
  have e1:∀ x,H x≠none→upd H l1 (.lst [.int (xs.length:Nat)]) x=H x:=fun x hx=>upd_ne fun e=>hx (by rw [e];exact hl1)
  have h1:upd H l1 (.lst [.int (xs.length:Nat)]) l1=some (.lst [.int (xs.length:Nat)]):=upd_same
  generalize upd H l1 (.lst [.int (xs.length:Nat)])=H1 at e1 h1 ⊢
  refine ⟨_,rfl,l,rows,rfl,ht.keep e1,by omega,fun r2 H2 hr2 h2 e2=>?_⟩
  have h12:H2 l1=some (.lst [.int (xs.length:Nat)]):=by rw [e2 l1 (by rw [h1];simp)];exact h1
  have e12:∀ x,H x≠none→H2 x=H x:=fun x hx=>by rw [e2 x (by rw [e1 x hx];exact hx),e1 x hx]
  refine ⟨l1,r2,_,_,rfl,rfl,h12,h2,by rw [List.length_map];show 1+_≤_;omega,fun r hr'=>?_⟩
  have hr0:H r=none:=by
   cases e:H r with
   | none=>rfl
   | some u=>rw [e12 r (by rw [e];simp),e] at hr';cases hr'
  refine k r _ hr0 ?_ fun x hx=>by rw [upd_ne (fun e=>hx (by rw [e];exact hr0)),e12 x hx]
  rw [upd_same,hlen];rfl
def pairRow (x:Nat × Nat):List Int:=[(x.1:Int),(x.2:Int)]
def sp_least_reaching (A:Adr):Sp:=fun vs H Q _=>∃ (l:Addr) (L:List (Nat × Nat)) (p:Nat),vs=[.ref l,.int p]∧Tups H l (L.map pairRow)∧L.length≤65536∧1≤p∧p≤10000 ∧
 (∀ H':Hp,Sh28.weight L=0→(∀ x,H x≠none→H' x=H x)→Q (.int (-4)) H') ∧
 (∀ (H':Hp) (v:Nat),Sh28.weight L≠0→Sh28.shareOf L p=some v→(∀ x,H x≠none→H' x=H x)→Q (.int v) H')
theorem sc_least_reaching:FnScope ["weighed","p","total","rising","at","reached","value","weight"] ["weighed","p"] (defScope s_least_reaching):=⟨rfl,rfl,rfl,by decide +kernel,rfl,by decide +kernel,by decide +kernel⟩
theorem ok_least_reaching (T:Txt K mg A):FnOk P w K mg base CX0 1 A.f_least_reaching A.d_least_reaching ["weighed","p"] (sp_least_reaching A):=by
 refine (T.u_least_reaching.fn).ok sc_least_reaching (fun vs H Q E h=>?_) (fun cdv AA outer s H vs Q E hr h=>?_)
 ·obtain ⟨l,L,p,rfl,_⟩:=h
  rfl
 ·obtain ⟨l,L,p,rfl,ht,hz,hp1,hp2,k1,k2⟩:=h
  refine ⟨_,(pss_cons (ps_set (i:=2) sc_least_reaching.nd rfl (Or.inl rfl) (pe_callB (cr_sum rfl) (by rfl) T.b_sum boot_sum (pa_cons (pe_lc (own:=[("value",6),("weight",7)]) (g:=(gTup K 2 (gCons (gName 6) (gCons (gName 7) gNil)))) (te:=(tVar 7)) rfl sc_least_reaching.nd (pi_list (pv 0)) ⟨rfl,by decide +kernel,(show ∀ p∈([("value",6),("weight",7)]:List (Str × Nat)),(["weighed","p","total","rising","at","reached","value","weight"]:List Str)[p.2]?=some p.1 by decide +kernel),(show ∀ y∈(_:List (Str × NameKind)),y.2=NameKind.free→(defScope s_least_reaching).names.lookup y.1=some NameKind.cell∨(defScope s_least_reaching).names.lookup y.1=some NameKind.free by decide +kernel),(show ∀ y∈(_:List (Str × NameKind)),y.2=NameKind.local∨y.2=NameKind.cell→y.1∈([("value",6),("weight",7)]:List (Str × Nat)).map (·.1)∨y.1∉(["weighed","p","total","rising","at","reached","value","weight"]:List Str) by decide +kernel)⟩ (fun _ _ _ _ _=>(pg_tup rfl (pgs_cons (pg_name (i:=6) sc_least_reaching.nd rfl (Or.inl rfl)) (pgs_cons (pg_name (i:=7) sc_least_reaching.nd rfl (Or.inl rfl)) pgs_nil)))) (fun _ _ _ _ _=>pts_nil) (fun _ _ _ _ _=>(pv 7))) pa_nil)))
   (pss_cons (ps_if (pt_cmpR op_eq (pv 2) pe_int (nomark _))
    (pss_one (ps_ret (pe_gint T.g_NOT_THERE)))
    pss_nil)
   (pss_cons (ps_set (i:=3) sc_least_reaching.nd rfl (Or.inl rfl) (pe_callB cr_sortedT (by rfl) T.b_sorted boot_sorted (pa_cons (pv 0) pa_nil)))
   (pss_cons (ps_set (i:=4) sc_least_reaching.nd rfl (Or.inl rfl) pe_int)
   (pss_cons (ps_set (i:=5) sc_least_reaching.nd rfl (Or.inl rfl) (pe_ix ix_tup (pe_ix ix_list (pv 3) pe_int (fun _ _=>rfl)) pe_int (fun _ _=>rfl)))
   (pss_cons (ps_while PassesOwn.never (pt_cmpR op_lt (pe_op op_mul (pe_gint T.g_WHOLE) (pv 5)) (pe_op op_mul (pv 1) (pv 2)) (nomark _))
    (pss_cons (ps_aug (i:=4) sc_least_reaching.nd rfl (Or.inl rfl) pe_int ip_add)
    (pss_one (ps_aug (i:=5) sc_least_reaching.nd rfl (Or.inl rfl) (pe_ix ix_tup (pe_ix ix_list (pv 3) (pv 4) (fun _ _=>rfl)) pe_int (fun _ _=>rfl)) ip_add))))
   (pss_one (ps_ret (pe_ix ix_tup (pe_ix ix_list (pv 3) (pv 4) (fun _ _=>rfl)) pe_int (fun _ _=>rfl)))))))))),?_⟩
  have hsl:=PySem.sizeLine_eq
  obtain ⟨ps,hps,hrows,htups⟩:=id ht
  have hpl:ps.length=L.length:=by have:=congrArg List.length hrows;simpa using this
  have hpr:∀ (i:Nat) (q:Addr × List Int),ps[i]?=some q→∃ x,L[i]?=some x∧q.2=pairRow x:=fun i q hq=>by
   have:=congrArg (·[i]?) hrows
   simp only [List.getElem?_map,hq] at this
   cases e:L[i]? with
   | none=>rw [e] at this;cases this
   | some x=>rw [e] at this;exact ⟨x,rfl,Option.some.inj this⟩
  refine ⟨_,rfl,l,rfl,⟨_,SqL.of hps⟩,fun D hD=>?_⟩
  have nlD:l≠D:=ne_of_none hps hD
  refine lc_list (xs:=ps.map fun q=>V.ref q.1) (fun i H'=>(∀ x,H x≠none→H' x=H x)∧H' D=some (.lst (((L.take i).map fun x=>(x.2:Int)).map V.int))) ?_ ?_ ?_ ?_
  ·exact ⟨fun x hx=>upd_ne fun e=>hx (by rw [e];exact hD),upd_same⟩
  ·rintro i H' _ ⟨h,_⟩
   exact SqL.of (by rw [h l (by rw [hps];simp)];exact hps)
  ·rintro i x H' hx ⟨q1,q2⟩
   rw [List.getElem?_map] at hx
   obtain ⟨q,hq,rfl⟩:=Option.map_eq_some_iff.mp hx
   have htq:=htups q (List.mem_of_getElem? hq)
   obtain ⟨y,hy,ey⟩:=hpr i q hq
   have hi:i<L.length:=(List.getElem?_eq_some_iff.mp hy).1
   rw [ey] at htq
   have htq':H' q.1=some (.tup [.int (y.1:Int),.int (y.2:Int)]):=by rw [q1 q.1 (by rw [htq];simp)];exact htq
   refine ⟨q.1,_,rfl,.inl (.inl htq'),rfl,_,_,rfl,_,_,rfl,rfl,rfl,_,rfl,_,q2,by rw [List.length_map,List.length_map,List.length_take];omega,fun x hx=>?_,?_⟩
   ·rw [upd_ne (fun e=>hx (by rw [e];exact hD)),q1 x hx]
   ·rw [upd_same,List.take_add_one,hy,List.map_append,List.map_append];rfl
  ·rintro H1 ⟨e1,q2⟩
   rw [List.length_map,hpl,List.take_length] at q2
   have hsum:((L.map fun x=>(x.2:Int))).sum=(Sh28.weight L:Int):=by
    unfold Sh28.weight
    generalize L=M
    induction M with
    | nil=>rfl
    | cons a r ih=>rw [List.map_cons,List.map_cons,List.sum_cons,List.sum_cons,ih];omega
   refine ⟨D,L.map fun x=>(x.2:Int),rfl,SqL.of q2,?_⟩
   rw [hsum]
   refine ⟨_,rfl,rfl,_,rfl,?_⟩
   rw [dec_int]
   refine ite2 (fun c=>?_) (fun c=>?_)
   ·have c:(Sh28.weight L:Int)=0:=beq_iff_eq.mp c
    exact k1 H1 (by omega) e1
   ·have c:¬ (Sh28.weight L:Int)=0:=fun q=>c (beq_iff_eq.mpr q)
    have hw0:Sh28.weight L≠0:=by omega
    have hps1:H1 l=some (.lst (ps.map fun q=>V.ref q.1)):=by rw [e1 l (by rw [hps];simp)];exact hps
    refine ⟨_,rfl,l,ps,rfl,SqL.of hps1,fun q hq=>⟨by rw [e1 q.1 (by rw [htups q hq];simp)];exact htups q hq,?_⟩,fun ps' r hpp hsrt hr'=>?_⟩
    ·obtain ⟨i,hi⟩:=List.mem_iff_getElem?.mp hq
     obtain ⟨y,_,ey⟩:=hpr i q hi
     rw [ey];unfold pairRow;simp
    have hrowsP:(ps'.map (·.2)).Perm (L.map pairRow):=by
     have:=hpp.map (·.2)
     rw [hrows] at this
     exact this
    obtain ⟨L',hL',eL'⟩:=perm_map hrowsP L rfl
    have hsr:L'.Pairwise fun a b=>a.1≤b.1:=by
     have:(ps'.map (·.2)).Pairwise fun x y=>x.headD 0≤y.headD 0:=by rw [List.pairwise_map];exact hsrt
     rw [eL',List.pairwise_map] at this
     exact this.imp fun {a b} h=>by have h:(a.1:Int)≤(b.1:Int):=h;omega
    have hlen':ps'.length=L'.length:=by have:=congrArg List.length eL';simpa using this
    have hL'l:L'.length=L.length:=hL'.length_eq
    have hwL:Sh28.weight L'=Sh28.weight L:=weight_perm hL'
    have hne:0<L'.length:=by
     rw [hL'l]
     cases hc:L with
     | nil=>rw [hc] at hw0;exact absurd rfl hw0
     | cons a r=>simp
    have e2:∀ x,H1 x≠none→upd H1 r (.lst (ps'.map fun q=>V.ref q.1)) x=H1 x:=fun x hx=>upd_ne fun e=>hx (by rw [e];exact hr')
    have h2:upd H1 r (.lst (ps'.map fun q=>V.ref q.1)) r=some (.lst (ps'.map fun q=>V.ref q.1)):=upd_same
    have item:∀ i,i<L'.length→∃ t x,L'[i]?=some x∧(ps'.map fun q=>V.ref q.1)[i]?=some (.ref t)∧upd H1 r (.lst (ps'.map fun q=>V.ref q.1)) t=some (.tup [.int (x.1:Int),.int (x.2:Int)]):=fun i hi=>by
     have hq:ps'[i]?=some ps'[i]:=List.getElem?_eq_getElem (by omega)
     have hx:L'[i]?=some L'[i]:=List.getElem?_eq_getElem hi
     have:=congrArg (·[i]?) eL'
     simp only [List.getElem?_map,hq,hx] at this
     have hrow:ps'[i].2=pairRow L'[i]:=Option.some.inj this
     have hm:=hpp.mem_iff.mp (List.mem_of_getElem? hq)
     have ht1:H1 ps'[i].1=some (.tup (ps'[i].2.map V.int)):=by rw [e1 _ (by rw [htups _ hm];simp)];exact htups _ hm
     rw [hrow] at ht1
     exact ⟨ps'[i].1,L'[i],hx,by rw [List.getElem?_map,hq];rfl,by rw [e2 _ (by rw [ht1];simp)];exact ht1⟩
    have e12:∀ x,H x≠none→upd H1 r (.lst (ps'.map fun q=>V.ref q.1)) x=H x:=fun x hx=>by rw [e2 x (by rw [e1 x hx];exact hx),e1 x hx]
    generalize upd H1 r (.lst (ps'.map fun q=>V.ref q.1))=H2 at h2 item e12 ⊢
    obtain ⟨t0,x0,hx0,ht0,hv0⟩:=item 0 hne
    have wtake:∀ (i:Nat) (x:Nat × Nat),L'[i]?=some x→Sh28.weight (L'.take (i+1))=Sh28.weight (L'.take i)+x.2:=fun i x hx=>by
     rw [List.take_add_one,hx,weight_app]
     unfold Sh28.weight;simp
    refine ⟨_,rfl,r,_,_,_,rfl,rfl,SqL.of h2,atI_nat (j:=0) (v:=.ref t0) ht0,t0,_,_,_,rfl,rfl,.inl (.inl hv0),atI_nat (j:=1) (v:=.int (x0.2:Int)) rfl,?_⟩
    refine ⟨fun m σ H'=>H'=H2∧∃ i:Nat,i<L'.length∧m=L'.length - i∧σ=[some (.ref l),some (.int p),some (.int (Sh28.weight L:Int)),some (.ref r),some (.int (i:Int)),some (.int (Sh28.weight (L'.take (i+1)):Int)),none,none]∧10000 * Sh28.weight (L'.take i)<p * Sh28.weight L,⟨_,rfl,0,hne,rfl,?_,?_⟩,?_⟩
    ·rw [wtake 0 x0 hx0]
     show _=[_,_,_,_,_,some (V.int ((Sh28.weight ([]:List (Nat × Nat))+x0.2:Nat):Int)),_,_]
     have:Sh28.weight ([]:List (Nat × Nat))=0:=rfl
     rw [this,Nat.zero_add];rfl
    ·show 10000 * Sh28.weight ([]:List (Nat × Nat))<_
     have:Sh28.weight ([]:List (Nat × Nat))=0:=rfl
     rw [this]
     have:=Nat.mul_pos (show 0<p by omega) (show 0<Sh28.weight L by omega)
     omega
    ·rintro m σ H' ⟨rfl,i,hi,rfl,rfl,hlt⟩
     obtain ⟨t,x,hx,hti,htv⟩:=item i hi
     refine ⟨_,rfl,_,_,rfl,rfl,.inl ⟨by decide,by decide⟩,_,rfl,_,rfl,_,_,rfl,rfl,.inl ⟨by show -(2 ^ 64)<(p:Int);omega,by show (p:Int)<2 ^ 64;omega⟩,_,_,rfl,rfl,_,rfl,?_⟩
     refine ite2 (fun c2=>wl_go ?_) (fun c2=>?_)
     ·have c2:(10000:Int) * (Sh28.weight (L'.take (i+1)):Int)<(p:Int) * (Sh28.weight L:Int):=of_decide_eq_true c2
      have c3:10000 * Sh28.weight (L'.take (i+1))<p * Sh28.weight L:=by
       have:((10000 * Sh28.weight (L'.take (i+1)):Nat):Int)<((p * Sh28.weight L:Nat):Int):=by rw [Int.natCast_mul,Int.natCast_mul];exact c2
       omega
      have hi1:i+1<L'.length:=by
       refine Nat.lt_of_not_le fun hle=>?_
       rw [List.take_of_length_le hle,hwL] at c3
       have:=Nat.mul_le_mul_right (Sh28.weight L) hp2
       omega
      obtain ⟨t',x',hx',hti',htv'⟩:=item (i+1) hi1
      refine ⟨_,rfl,_,_,rfl,rfl,?_⟩
      refine ⟨_,rfl,_,rfl,_,rfl,r,_,_,_,rfl,rfl,SqL.of h2,at_of (j:=i+1) (v:=.ref t') rfl hti',t',_,_,_,rfl,rfl,.inl (.inl htv'),atI_nat (j:=1) (v:=.int (x'.2:Int)) rfl,_,_,rfl,rfl,L'.length - (i+1),by omega,rfl,i+1,hi1,rfl,?_,c3⟩
      rw [wtake (i+1) x' hx',Int.natCast_add];rfl
     ·have c2:¬ (10000:Int) * (Sh28.weight (L'.take (i+1)):Int)<(p:Int) * (Sh28.weight L:Int):=fun q=>c2 (decide_eq_true q)
      have c3:p * Sh28.weight L≤10000 * Sh28.weight (L'.take (i+1)):=by
       refine Nat.le_of_not_lt fun q=>c2 ?_
       have:((10000 * Sh28.weight (L'.take (i+1)):Nat):Int)<((p * Sh28.weight L:Nat):Int):=by omega
       rw [Int.natCast_mul,Int.natCast_mul] at this
       exact this
      refine ⟨_,rfl,_,rfl,r,_,_,_,rfl,rfl,SqL.of h2,atI_nat (j:=i) (v:=.ref t) hti,t,_,_,_,rfl,rfl,.inl (.inl htv),atI_nat (j:=0) (v:=.int (x.1:Int)) rfl,?_⟩
      exact k2 H' x.1 hw0 (share_found hL' hsr hx hlt c3) e12
end
end Bk
namespace Bk
open Sh28
def cnt (h:Nat→Bool) (l:List Piece):Nat:=(l.filter fun p=>h p.node).length
def sm (h:Nat→Bool) (l:List Piece):Nat:=sumOf (l.filter fun p=>h p.node)
def cls (i:Nat) (l:List Piece):Nat:=(l.filter fun p=>classOf p.size == i).length
theorem sumOf_cons (p:Piece) (l:List Piece):sumOf (p::l)=p.size+sumOf l:=by unfold sumOf;rw [List.map_cons,List.sum_cons]
theorem sumOf_perm {l l':List Piece} (e:l.Perm l'):sumOf l=sumOf l':=by unfold sumOf;exact (e.map _).sum_nat
theorem cnt_perm {h:Nat→Bool}{l l':List Piece} (e:l.Perm l'):cnt h l=cnt h l':=by unfold cnt;exact (e.filter _).length_eq
theorem sm_perm {h:Nat→Bool}{l l':List Piece} (e:l.Perm l'):sm h l=sm h l':=by unfold sm;exact sumOf_perm (e.filter _)
theorem cls_perm {i:Nat}{l l':List Piece} (e:l.Perm l'):cls i l=cls i l':=by unfold cls;exact (e.filter _).length_eq
theorem cnt_cons (h:Nat→Bool) (p:Piece) (l:List Piece):cnt h (p::l)=(if h p.node=true then 1 else 0)+cnt h l:=by
 unfold cnt
 rw [List.filter_cons]
 by_cases e:h p.node=true
 ·rw [if_pos e,if_pos e,List.length_cons];omega
 ·rw [if_neg e,if_neg e];omega
theorem sm_cons (h:Nat→Bool) (p:Piece) (l:List Piece):sm h (p::l)=(if h p.node=true then p.size else 0)+sm h l:=by
 unfold sm
 rw [List.filter_cons]
 by_cases e:h p.node=true
 ·rw [if_pos e,if_pos e,sumOf_cons]
 ·rw [if_neg e,if_neg e];omega
theorem cls_cons (i:Nat) (p:Piece) (l:List Piece):cls i (p::l)=(if classOf p.size=i then 1 else 0)+cls i l:=by
 unfold cls
 rw [List.filter_cons]
 by_cases e:classOf p.size=i
 ·rw [if_pos (by simpa using e),if_pos e,List.length_cons];omega
 ·rw [if_neg (by simpa using e),if_neg e];omega
theorem sm_le (h:Nat→Bool):∀ l:List Piece,sm h l≤sumOf l
 | []=>Nat.le_refl _
 | p::l=>by
  have:=sm_le h l
  rw [sm_cons,sumOf_cons]
  split<;>omega
theorem sumOf_le:∀ l:List Piece,(∀ p∈l,p.size<2 ^ 32)→sumOf l≤2 ^ 32 * l.length
 | [],_=>Nat.le_refl _
 | p::l,h=>by
  have h1:=h p List.mem_cons_self
  have h2:=sumOf_le l fun q hq=>h q (List.mem_cons_of_mem _ hq)
  rw [sumOf_cons,List.length_cons]
  omega
theorem cnt_congr {h h':Nat→Bool}:∀ {l:List Piece},(∀ p∈l,h p.node=h' p.node)→cnt h l=cnt h' l
 | [],_=>rfl
 | p::l,e=>by rw [cnt_cons,cnt_cons,e p List.mem_cons_self,cnt_congr fun q hq=>e q (List.mem_cons_of_mem _ hq)]
theorem sm_congr {h h':Nat→Bool}:∀ {l:List Piece},(∀ p∈l,h p.node=h' p.node)→sm h l=sm h' l
 | [],_=>rfl
 | p::l,e=>by rw [sm_cons,sm_cons,e p List.mem_cons_self,sm_congr fun q hq=>e q (List.mem_cons_of_mem _ hq)]
theorem perm_rest:∀ {l:List Piece}{q:Piece},Nums l→q∈l→l.Perm (q::l.filter fun x=>x.number != q.number)
 | [],q,_,h=>by simp at h
 | a::l,q,hp,h=>by
  obtain ⟨h1,h2⟩:=List.pairwise_cons.mp hp
  by_cases e:a.number=q.number
  ·have haq:a=q:=pw_inj (f:=Piece.number) hp List.mem_cons_self h e
   subst haq
   have hall:l.filter (fun x=>x.number != a.number)=l:=List.filter_eq_self.mpr fun x hx=>by rw [bne_iff_ne];exact (h1 x hx).symm
   rw [List.filter_cons,if_neg (by simp),hall]
  ·have hq:q∈l:=by
    rcases List.mem_cons.mp h with rfl | h
    ·exact absurd rfl e
    ·exact h
   rw [List.filter_cons,if_pos (by simpa using e)]
   exact ((perm_rest h2 hq).cons a).trans (List.Perm.swap _ _ _)
theorem perm_moved {l:List Piece}{q q':Piece} (hn:Nums l) (hq:q∈l) (hnum:q'.number=q.number) (f:Piece→Piece) (hf:f q=q') (hr:∀ x,x.number≠q.number→f x=x):(l.map f).Perm (q'::l.filter fun x=>x.number != q.number):=by
 have:=(perm_rest hn hq).map f
 rw [List.map_cons,hf] at this
 have e:(l.filter fun x=>x.number != q.number).map f=l.filter fun x=>x.number != q.number:=by
  conv=>rhs;rw [← List.map_id (l.filter fun x=>x.number != q.number)]
  refine List.map_congr_left fun x hx=>?_
  rw [List.mem_filter,bne_iff_ne] at hx
  exact hr x hx.2
 rw [e] at this
 exact this
def amOf (s:State) (k:Nat):Nat:=(((List.range s.nodes.length).filter (under s k)).map fun j=>(nodeAt s j).bytes).sum
theorem sum_bump {f g:Nat→Nat}{a z:Nat} (hg:∀ j,g j=f j+if j=a then z else 0):∀ {l:List Nat},l.Nodup→(l.map g).sum=(l.map f).sum+if a∈l then z else 0
 | [],_=>rfl
 | j::l,h=>by
  obtain ⟨h1,h2⟩:=List.nodup_cons.mp h
  rw [List.map_cons,List.sum_cons,List.map_cons,List.sum_cons,sum_bump hg h2,hg j]
  by_cases e:j=a
  ·subst e
   rw [if_pos rfl,if_neg h1,if_pos List.mem_cons_self];omega
  ·rw [if_neg e]
   by_cases ha:a∈l
   ·rw [if_pos ha,if_pos (List.mem_cons_of_mem _ ha)];omega
   ·rw [if_neg ha,if_neg (by rw [List.mem_cons];rintro (h | h);exact e h.symm;exact ha h)];omega
theorem nodeAt_set {s:State}{k:Nat}{n:Node} (hk:k<s.nodes.length) (j:Nat):nodeAt { s with nodes:=s.nodes.set k n } j=if j=k then n else nodeAt s j:=by
 unfold nodeAt
 rw [List.getD_eq_getElem?_getD,List.getD_eq_getElem?_getD]
 show ((s.nodes.set k n)[j]?).getD _=_
 by_cases e:j=k
 ·subst e
  rw [List.getElem?_set_self hk,if_pos rfl];rfl
 ·rw [List.getElem?_set_ne (Ne.symm e),if_neg e]
theorem shape_set {s:State}{k:Nat}{n:Node} (ha:n.above=(nodeAt s k).above) (hw:n.who=(nodeAt s k).who):Shape s { s with nodes:=s.nodes.set k n }:=by
 unfold Shape
 show (s.nodes.set k n).map _=_
 by_cases hk:k<s.nodes.length
 ·rw [List.map_set]
  have e:(n.above,n.who)=(s.nodes.map fun n=>(n.above,n.who))[k]'(by rw [List.length_map];exact hk):=by
   rw [List.getElem_map,ha,hw]
   have:nodeAt s k=s.nodes[k]:=by unfold nodeAt;rw [List.getD_eq_getElem?_getD,List.getElem?_eq_getElem hk];rfl
   rw [this]
  rw [e,List.set_getElem_self]
 ·rw [List.set_eq_of_length_le (by omega)]
theorem Shape.trans {s t u:State} (h:Shape s t) (h':Shape t u):Shape s u:=Eq.trans (show u.nodes.map _=t.nodes.map _ from h') h
theorem shape_nodes {s t:State} (h:t.nodes=s.nodes):Shape s t:=by unfold Shape;rw [h]
structure Good (s:State):Prop where
 wf:Wf s
 few:s.live.length≤65536
 dis:Dis s.live
 num:Nums s.live
 size:∀ p∈s.live,p.size<2 ^ 32
 node:∀ p∈s.live,p.node<s.nodes.length
 made:∀ p∈s.live,p.number<s.made
 born:∀ p∈s.live,p.born≤s.time
 ord:∀ p∈s.live,∀ q∈s.live,p.number<q.number→p.born≤q.born
 time:s.time<2 ^ 63
 bytes:s.bytes<2 ^ 63
 nb:∀ k,(nodeAt s k).bytes≤s.bytes
 pk:∀ k,k<s.nodes.length→sm (fun j=>j == k) s.live≤(nodeAt s k).peak
 peak:sumOf s.live≤s.peak
 rate:s.rate<2 ^ 32
 off:s.rate=0→s.off=0
 sz:s.sizes.length=124
 ag:s.ages.length=64
 mc:s.marks.length≤64
 ml:∀ m∈s.marks,m.length≤s.nodes.length
 pr:∀ k,(nodeAt s k).picks=0→(nodeAt s k).rates=0
theorem good_begun:Good begun where
 wf:=⟨by decide,by decide,rfl,fun k h0 hk=>by have:k<1:=hk;omega,fun k h0 hk=>by have:k<1:=hk;omega,by decide,fun k hk=>by have:k<1:=hk;have e0:k=0:=(by omega);subst e0;decide,fun k h0 hk=>by have:k<1:=hk;omega⟩
 few:=by decide
 dis:=List.Pairwise.nil
 num:=List.Pairwise.nil
 size:=fun p hp=>by simp [begun] at hp
 node:=fun p hp=>by simp [begun] at hp
 made:=fun p hp=>by simp [begun] at hp
 born:=fun p hp=>by simp [begun] at hp
 ord:=fun p hp=>by simp [begun] at hp
 time:=by decide
 bytes:=by decide
 nb:=fun k=>by
  cases k with
  | zero=>decide
  | succ k=>exact Nat.le_refl 0
 pk:=fun k hk=>by have:k<1:=hk;have e0:k=0:=(by omega);subst e0;decide
 peak:=by decide
 rate:=by decide
 off:=fun _=>rfl
 sz:=by decide
 ag:=by decide
 mc:=by decide
 ml:=fun m hm=>by simp [begun] at hm
 pr:=fun k _=>by
  cases k with
  | zero=>rfl
  | succ k=>rfl
section
variable {s:State}
theorem good_like {s t:State} (G:Good s) (hn:t.nodes=s.nodes) (hl:t.live=s.live) (ha:t.at_<s.nodes.length) (h1:t.made=s.made) (h2:t.bytes=s.bytes) (h3:t.peak=s.peak) (h4:t.sizes=s.sizes) (h5:t.ages=s.ages) (ht:s.time≤t.time) (ht2:t.time<2 ^ 63)
  (hr:t.rate<2 ^ 32) (ho:t.rate=0→t.off=0) (hm:t.marks.length≤64) (hm2:∀ m∈t.marks,m.length≤s.nodes.length):Good t:=by
 have sh:=shape_nodes hn
 have nA:∀ k,nodeAt t k=nodeAt s k:=fun k=>by unfold nodeAt;rw [hn]
 exact ⟨sh.wf (by rw [hn];exact ha) G.wf,by rw [hl];exact G.few,by rw [hl];exact G.dis,by rw [hl];exact G.num,by rw [hl];exact G.size,by rw [hl,hn];exact G.node,by rw [hl,h1];exact G.made,
  by rw [hl];exact fun p hp=>Nat.le_trans (G.born p hp) ht,by rw [hl];exact G.ord,ht2,by rw [h2];exact G.bytes,fun k=>by rw [nA,h2];exact G.nb k,fun k hk=>by rw [nA,hl];exact G.pk k (by rw [← hn];exact hk),by rw [hl,h3];exact G.peak,hr,ho,
  by rw [h4];exact G.sz,by rw [h5];exact G.ag,hm,by rw [hn];exact hm2,fun k=>by rw [nA];exact G.pr k⟩
theorem good_at (G:Good s) {k:Nat} (hk:k<s.nodes.length):Good { s with at_:=k }:=good_like G rfl rfl hk rfl rfl rfl rfl rfl (Nat.le_refl _) G.time G.rate G.off G.mc G.ml
theorem good_tick (G:Good s) {n:Nat} (h:s.time+n<2 ^ 63):Good { s with time:=s.time+n }:=good_like G rfl rfl G.wf.at_ rfl rfl rfl rfl rfl (Nat.le_add_right _ _) h G.rate G.off G.mc G.ml
theorem good_pick (G:Good s) {r:Nat} (h:r<2 ^ 32):Good { s with rate:=r,off:=0 }:=good_like G rfl rfl G.wf.at_ rfl rfl rfl rfl rfl (Nat.le_refl _) G.time h (fun _=>rfl) G.mc G.ml
theorem good_mark (G:Good s) (h:s.marks.length<64):Good { s with marks:=s.marks++[marked s] }:=good_like G rfl rfl G.wf.at_ rfl rfl rfl rfl rfl (Nat.le_refl _) G.time G.rate G.off (by show (s.marks++[marked s]).length≤64;rw [List.length_append];exact h) fun m hm=>by
 rcases List.mem_append.mp hm with hm | hm
 ·exact G.ml m hm
 ·rw [List.mem_singleton.mp hm];unfold marked;rw [List.length_map,List.length_range];exact Nat.le_refl _
theorem good_grown (G:Good s) {w:Nat} (hl:s.nodes.length<4096) (hd:depthOf s s.at_<64) (hw:w<65536) (hc:child s s.at_ w=none):Good { s with nodes:=s.nodes++[⟨s.at_,w,0,0,0,0,0⟩],at_:=s.nodes.length }:=by
 have W:=G.wf
 have len:(s.nodes++[(⟨s.at_,w,0,0,0,0,0⟩:Node)]).length=s.nodes.length+1:=by simp
 have nA:∀ k,nodeAt { s with nodes:=s.nodes++[⟨s.at_,w,0,0,0,0,0⟩],at_:=s.nodes.length } k=if k=s.nodes.length then ⟨s.at_,w,0,0,0,0,0⟩ else nodeAt s k:=fun k=>by
  by_cases e:k=s.nodes.length
  ·subst e;rw [if_pos rfl];exact grown_new (s:=s) (n:=⟨s.at_,w,0,0,0,0,0⟩)
  ·rw [if_neg e]
   by_cases hk:k<s.nodes.length
   ·exact grown_at (s:=s) (n:=⟨s.at_,w,0,0,0,0,0⟩) hk
   ·unfold nodeAt
    rw [List.getD_eq_getElem?_getD,List.getD_eq_getElem?_getD]
    show ((s.nodes++[_])[k]?).getD _=_
    rw [List.getElem?_eq_none (by rw [len];omega),List.getElem?_eq_none (by omega)]
 refine ⟨grown_wf W hl hd hw hc (Nat.le_refl _),G.few,G.dis,G.num,G.size,fun p hp=>by show p.node<(s.nodes++_).length;rw [len];have:=G.node p hp;omega,G.made,G.born,G.ord,G.time,G.bytes,fun k=>?_,fun k hk=>?_,G.peak,G.rate,G.off,G.sz,G.ag,G.mc,fun m hm=>by show m.length≤(s.nodes++_).length;rw [len];have:=G.ml m hm;omega,fun k=>?_⟩
 ·rw [nA]
  split
  ·exact Nat.zero_le _
  ·exact G.nb k
 ·have hk:k<(s.nodes++[_]).length:=hk
  rw [len] at hk
  rw [nA]
  by_cases e:k=s.nodes.length
  ·rw [if_pos e]
   have:sm (fun j=>j == k) s.live=0:=by
    have:=sm_congr (h:=fun j=>j == k) (h':=fun _=>false) (l:=s.live) fun p hp=>by
     have:=G.node p hp
     simp;omega
    rw [this]
    unfold sm
    rw [List.filter_eq_nil_iff.mpr (fun _ _=>Bool.false_ne_true)];rfl
   show sm (fun j=>j == k) s.live≤0
   omega
  ·rw [if_neg e];exact G.pk k (by omega)
 ·rw [nA]
  split
  ·intro _;rfl
  ·exact G.pr k
def made0 (s:State) (place size:Nat):State :=
 { s with
  live:=s.live++[⟨place,size,s.at_,s.time,s.made⟩],made:=s.made+1,bytes:=s.bytes+size,sizes:=bump s.sizes (classOf size),
  off:=if s.rate=0 then 0 else (s.off+size) % s.rate,
  nodes:=s.nodes.set s.at_ { nodeAt s s.at_ with made:=(nodeAt s s.at_).made+1,bytes:=(nodeAt s s.at_).bytes+size,picks:=(nodeAt s s.at_).picks+(if s.rate=0 then 0 else (s.off+size) / s.rate),rates:=(nodeAt s s.at_).rates+(if s.rate=0 then 0 else (s.off+size) / s.rate) * s.rate } }
theorem madePiece_eq (s:State) (p z:Nat):madePiece s p z=peaked (made0 s p z) s.at_:=rfl
theorem made0_node (W:Wf s) (p z j:Nat):nodeAt (made0 s p z) j=if j=s.at_ then { nodeAt s s.at_ with made:=(nodeAt s s.at_).made+1,bytes:=(nodeAt s s.at_).bytes+z,picks:=(nodeAt s s.at_).picks+(if s.rate=0 then 0 else (s.off+z) / s.rate),rates:=(nodeAt s s.at_).rates+(if s.rate=0 then 0 else (s.off+z) / s.rate) * s.rate } else nodeAt s j :=
 nodeAt_set (s:=s) W.at_ j
theorem made0_shape (p z:Nat):Shape s (made0 s p z):=shape_set (s:=s) rfl rfl
theorem peaked_shape (k:Nat):Shape s (peaked s k):=shape_set (s:=s) rfl rfl
theorem peaked_node {k:Nat} (hk:k<s.nodes.length) (j:Nat):nodeAt (peaked s k) j=if j=k then { nodeAt s k with peak:=max (nodeAt s k).peak (sm (fun i=>i == k) s.live) } else nodeAt s j:=nodeAt_set (s:=s) hk j
theorem mem_snoc {α:Type}{l:List α}{a x:α}:x∈l++[a]↔x∈l∨x=a:=by rw [List.mem_append,List.mem_singleton]
theorem made_len (p z:Nat):(madePiece s p z).nodes.length=s.nodes.length:=by
 show ((s.nodes.set _ _).set _ _).length=_
 rw [List.length_set,List.length_set]
theorem made_live (p z:Nat):(madePiece s p z).live=s.live++[⟨p,z,s.at_,s.time,s.made⟩]:=rfl
theorem made_perm (p z:Nat):(madePiece s p z).live.Perm (⟨p,z,s.at_,s.time,s.made⟩::s.live):=by rw [made_live];exact List.perm_append_singleton _ _
theorem made_shape (p z:Nat):Shape s (madePiece s p z):=(made0_shape p z).trans (peaked_shape _)
theorem made_node (W:Wf s) (p z j:Nat):nodeAt (madePiece s p z) j=if j=s.at_ then { nodeAt s s.at_ with made:=(nodeAt s s.at_).made+1,bytes:=(nodeAt s s.at_).bytes+z,peak:=max (nodeAt s s.at_).peak (sm (fun i=>i == s.at_) s.live+z),picks:=(nodeAt s s.at_).picks+(if s.rate=0 then 0 else (s.off+z) / s.rate),rates:=(nodeAt s s.at_).rates+(if s.rate=0 then 0 else (s.off+z) / s.rate) * s.rate } else nodeAt s j:=by
 have h0:s.at_<(made0 s p z).nodes.length:=by show s.at_<(s.nodes.set _ _).length;rw [List.length_set];exact W.at_
 rw [madePiece_eq,peaked_node h0,made0_node W,made0_node W,if_pos rfl]
 by_cases e:j=s.at_
 ·rw [if_pos e,if_pos e]
  have:sm (fun i=>i == s.at_) (made0 s p z).live=sm (fun i=>i == s.at_) s.live+z:=by
   have:(made0 s p z).live.Perm (⟨p,z,s.at_,s.time,s.made⟩::s.live):=List.perm_append_singleton _ _
   rw [sm_perm this,sm_cons,if_pos (by simp)]
   show z+_=_
   omega
  rw [this]
 ·rw [if_neg e,if_neg e,if_neg e]
theorem good_made (G:Good s) {p z:Nat} (hz:z<2 ^ 32) (hf:s.live.any (hits p z)=false) (hl:s.live.length<65536) (hb:s.bytes+z<2 ^ 63):Good (madePiece s p z):=by
 have W:=G.wf
 have nA:=made_node W p z
 have sh:=made_shape (s:=s) p z
 have hP:=made_perm (s:=s) p z
 have hmem:∀ x,x∈(madePiece s p z).live↔x∈s.live∨x=⟨p,z,s.at_,s.time,s.made⟩:=fun x=>by rw [made_live];exact mem_snoc
 have hbl:=sumOf_perm hP
 rw [sumOf_cons] at hbl
 refine ⟨sh.wf (by rw [made_len];exact W.at_) W,by rw [made_live,List.length_append];exact hl,?_,?_,?_,?_,?_,?_,?_,G.time,hb,?_,?_,?_,G.rate,?_,?_,G.ag,G.mc,?_,?_⟩
 ·rw [made_live,Dis,List.pairwise_append]
  refine ⟨G.dis,by simp,fun a ha b hb=>?_⟩
  rw [List.mem_singleton.mp hb]
  refine Apart.symm ((apart_iff _ _).mpr ?_)
  rw [List.any_eq_false] at hf
  exact Bool.eq_false_iff.mpr (hf a ha)
 ·rw [made_live,Nums,List.pairwise_append]
  refine ⟨G.num,by simp,fun a ha b hb=>?_⟩
  rw [List.mem_singleton.mp hb]
  exact Nat.ne_of_lt (G.made a ha)
 ·intro x hx
  rcases (hmem x).mp hx with hx | rfl
  ·exact G.size x hx
  ·exact hz
 ·intro x hx
  rw [made_len]
  rcases (hmem x).mp hx with hx | rfl
  ·exact G.node x hx
  ·exact W.at_
 ·intro x hx
  show x.number<s.made+1
  rcases (hmem x).mp hx with hx | rfl
  ·have:=G.made x hx;omega
  ·exact Nat.lt_succ_self _
 ·intro x hx
  show x.born≤s.time
  rcases (hmem x).mp hx with hx | rfl
  ·exact G.born x hx
  ·exact Nat.le_refl _
 ·intro x hx y hy hxy
  rcases (hmem x).mp hx with hx | rfl
  ·rcases (hmem y).mp hy with hy | rfl
   ·exact G.ord x hx y hy hxy
   ·exact G.born x hx
  ·rcases (hmem y).mp hy with hy | rfl
   ·have:=G.made y hy
    have hxy:s.made<y.number:=hxy
    omega
   ·exact Nat.le_refl _
 ·intro k
  rw [nA]
  show _≤s.bytes+z
  have:=G.nb k
  have:=G.nb s.at_
  split
  ·show (nodeAt s s.at_).bytes+z≤_;omega
  ·omega
 ·intro k hk
  rw [made_len] at hk
  rw [nA,sm_perm hP,sm_cons]
  have:=G.pk k hk
  by_cases e:k=s.at_
  ·subst e
   rw [if_pos rfl,if_pos (by simp)]
   show z+_≤max _ (_+z)
   omega
  ·rw [if_neg e,if_neg (by show ¬ (s.at_ == k)=true;rw [beq_iff_eq];exact fun q=>e q.symm)]
   omega
 ·rw [hbl]
  have h0:(madePiece s p z).peak=max s.peak (sumOf (made0 s p z).live):=rfl
  have h1:sumOf (made0 s p z).live=z+sumOf s.live:=by
   have:(made0 s p z).live.Perm (⟨p,z,s.at_,s.time,s.made⟩::s.live):=List.perm_append_singleton _ _
   rw [sumOf_perm this,sumOf_cons]
  rw [h0,h1]
  show z+_≤_
  omega
 ·intro h
  have h:s.rate=0:=h
  show (if s.rate=0 then 0 else _)=0
  rw [if_pos h]
 ·show (bump s.sizes (classOf z)).length=124
  unfold bump
  rw [List.length_set];exact G.sz
 ·intro m hm
  rw [made_len]
  exact G.ml m hm
 ·intro k
  rw [nA]
  by_cases e:k=s.at_
  ·rw [if_pos e]
   intro h
   have h:(nodeAt s s.at_).picks+(if s.rate=0 then 0 else (s.off+z) / s.rate)=0:=h
   show (nodeAt s s.at_).rates+(if s.rate=0 then 0 else (s.off+z) / s.rate) * s.rate=0
   have h2:(if s.rate=0 then 0 else (s.off+z) / s.rate)=0:=by omega
   rw [h2,G.pr s.at_ (by omega)];simp
  ·rw [if_neg e];exact G.pr k
theorem good_gone (G:Good s) {q:Piece} (hq:q∈s.live):Good (gone s q):=by
 have hsub:∀ x,x∈s.live.filter (fun x=>x.number != q.number)→x∈s.live:=fun x hx=>(List.mem_filter.mp hx).1
 have hP:=perm_rest G.num hq
 have e1:=sumOf_perm hP
 rw [sumOf_cons] at e1
 refine ⟨(show Shape s (gone s q) from rfl).wf G.wf.at_ G.wf,Nat.le_trans (List.length_filter_le _ _) G.few,G.dis.sublist List.filter_sublist,G.num.sublist List.filter_sublist,fun x hx=>G.size x (hsub x hx),fun x hx=>G.node x (hsub x hx),fun x hx=>G.made x (hsub x hx),fun x hx=>G.born x (hsub x hx),fun x hx y hy=>G.ord x (hsub x hx) y (hsub y hy),G.time,G.bytes,G.nb,fun k hk=>?_,?_,G.rate,G.off,G.sz,?_,G.mc,G.ml,G.pr⟩
 ·have:=G.pk k hk
  rw [sm_perm hP,sm_cons] at this
  show sm _ (s.live.filter _)≤(nodeAt s k).peak
  omega
 ·have:=G.peak
  show sumOf (s.live.filter _)≤s.peak
  omega
 ·show (s.ages.set _ _).length=64
  rw [List.length_set];exact G.ag
def moved0 (s:State) (p:Piece) (place size:Nat):State:={ s with live:=s.live.map fun q=>if q.number=p.number then { q with place:=place,size:=size } else q }
theorem movedPiece_eq (s:State) (p:Piece) (place size:Nat):movedPiece s p place size=peaked (moved0 s p place size) p.node:=rfl
theorem moved_perm (G:Good s) {q:Piece} (hq:q∈s.live) (place size:Nat):(moved0 s q place size).live.Perm ({ q with place:=place,size:=size }::s.live.filter fun x=>x.number != q.number) :=
 perm_moved (q':={ q with place:=place,size:=size }) G.num hq rfl _ (if_pos rfl) fun x hx=>if_neg hx
theorem moved_node (G:Good s) {q:Piece} (hq:q∈s.live) (place size j:Nat):nodeAt (movedPiece s q place size) j=if j=q.node then { nodeAt s q.node with peak:=max (nodeAt s q.node).peak (sm (fun i=>i == q.node) (s.live.filter fun x=>x.number != q.number)+size) } else nodeAt s j:=by
 have h0:q.node<(moved0 s q place size).nodes.length:=G.node q hq
 rw [movedPiece_eq,peaked_node h0]
 by_cases e:j=q.node
 ·rw [if_pos e,if_pos e,sm_perm (moved_perm G hq place size),sm_cons,if_pos (by simp)]
  rw [Nat.add_comm];rfl
 ·rw [if_neg e,if_neg e];rfl
theorem moved_len (q:Piece) (place size:Nat):(movedPiece s q place size).nodes.length=s.nodes.length:=by
 show (s.nodes.set _ _).length=_
 rw [List.length_set]
theorem moved_shape (q:Piece) (place size:Nat):Shape s (movedPiece s q place size):=(show Shape s (moved0 s q place size) from rfl).trans (peaked_shape _)
theorem good_moved (G:Good s) {q:Piece} (hq:q∈s.live) {t z:Nat} (hz:z<2 ^ 32) (hf:(s.live.any fun r=>r.number != q.number && hits t z r)=false):Good (movedPiece s q t z):=by
 have W:=G.wf
 have hP:=moved_perm G hq t z
 have hP':(movedPiece s q t z).live.Perm ({ q with place:=t,size:=z }::s.live.filter fun x=>x.number != q.number):=hP
 have hrest:∀ x,x∈s.live.filter (fun x=>x.number != q.number)→x∈s.live∧x.number≠q.number:=fun x hx=>by rw [List.mem_filter,bne_iff_ne] at hx;exact hx
 have hmem:∀ x,x∈(movedPiece s q t z).live↔x={ q with place:=t,size:=z }∨x∈s.live.filter (fun x=>x.number != q.number):=fun x=>by rw [hP'.mem_iff,List.mem_cons]
 have nA:=moved_node G hq t z
 have hlen:(movedPiece s q t z).live.length=s.live.length:=by show (s.live.map _).length=_;rw [List.length_map]
 refine ⟨(moved_shape q t z).wf (by rw [moved_len];exact W.at_) W,by rw [hlen];exact G.few,?_,?_,?_,?_,?_,?_,?_,G.time,G.bytes,?_,?_,?_,G.rate,G.off,G.sz,G.ag,G.mc,?_,?_⟩
 ·refine hP'.symm.pairwise (List.pairwise_cons.mpr ⟨fun x hx=>?_,G.dis.sublist List.filter_sublist⟩) fun {a b} h=>h.symm
  obtain ⟨h1,h2⟩:=hrest x hx
  rw [apart_iff]
  rw [List.any_eq_false] at hf
  have:=hf x h1
  rw [Bool.and_eq_true,not_and,bne_iff_ne] at this
  exact Bool.eq_false_iff.mpr (this h2)
 ·refine hP'.symm.pairwise (List.pairwise_cons.mpr ⟨fun x hx=>(hrest x hx).2.symm,G.num.sublist List.filter_sublist⟩) fun {a b} h=>h.symm
 ·intro x hx
  rcases (hmem x).mp hx with rfl | hx
  ·exact hz
  ·exact G.size x (hrest x hx).1
 ·intro x hx
  rw [moved_len]
  rcases (hmem x).mp hx with rfl | hx
  ·exact G.node q hq
  ·exact G.node x (hrest x hx).1
 ·intro x hx
  show x.number<s.made
  rcases (hmem x).mp hx with rfl | hx
  ·exact G.made q hq
  ·exact G.made x (hrest x hx).1
 ·intro x hx
  show x.born≤s.time
  rcases (hmem x).mp hx with rfl | hx
  ·exact G.born q hq
  ·exact G.born x (hrest x hx).1
 ·intro x hx y hy hxy
  rcases (hmem x).mp hx with rfl | hx
  ·rcases (hmem y).mp hy with rfl | hy
   ·exact Nat.le_refl _
   ·exact G.ord q hq y (hrest y hy).1 hxy
  ·rcases (hmem y).mp hy with rfl | hy
   ·exact G.ord x (hrest x hx).1 q hq hxy
   ·exact G.ord x (hrest x hx).1 y (hrest y hy).1 hxy
 ·intro k
  rw [nA]
  split
  ·exact G.nb q.node
  ·exact G.nb k
 ·intro k hk
  rw [moved_len] at hk
  have h1:=G.pk k hk
  rw [sm_perm (perm_rest G.num hq),sm_cons] at h1
  rw [nA,sm_perm hP',sm_cons]
  by_cases e:k=q.node
  ·subst e
   rw [if_pos rfl,if_pos (by simp)]
   show z+_≤max _ (_+z)
   omega
  ·have hne:¬ (q.node == k)=true:=by rw [beq_iff_eq];exact fun h=>e h.symm
   rw [if_neg e,if_neg hne]
   rw [if_neg hne] at h1
   omega
 ·show sumOf _≤max s.peak (sumOf (moved0 s q t z).live)
  exact Nat.le_max_right _ _
 ·intro m hm
  rw [moved_len]
  exact G.ml m hm
 ·intro k
  rw [nA]
  split
  ·exact G.pr q.node
  ·exact G.pr k
end
end Bk
namespace Bk
open PySem L2
open Sh28 (State nodeAt depthOf child up under wayUp pathOf findWay begun Piece)
inductive Tg where
 | book | ways | node | pcs | piece | rows | picks | ls | dT | dK | tu | tb | ex | fz | ot | no
 deriving DecidableEq
def tgS (s:Str):Tg:=if s="time" then .book else if s="nodes" then .ways else if s="above" then .node else if s="by_place" then .pcs else if s="number" then .piece else if s="size_made" then .rows else if s="rate" then .picks else .ot
def tg:Option HO→Tg
 | none=>.no
 | some (.lst _)=>.ls
 | some (.tup _)=>.tu
 | some (.dK _)=>.dK
 | some (.dT _)=>.dT
 | some (.ins _ _ (x::_))=>tgS x.1
 | some (.tbl _)=>.tb
 | some (.ext _)=>.ex
 | some (.frz _ _)=>.fz
 | some _=>.ot
section
variable {H H':Hp}{p C:Addr}{v:V}{vs:List V}
theorem tg_book (h:Ob H p C K_Book (v::vs)):tg (H p)=.book:=by obtain ⟨dx,h⟩:=h;rw [h];show tgS "time"=_;decide +kernel
theorem tg_ways (h:Ob H p C K_Ways (v::vs)):tg (H p)=.ways:=by obtain ⟨dx,h⟩:=h;rw [h];show tgS "nodes"=_;decide +kernel
theorem tg_node (h:Ob H p C K_Node (v::vs)):tg (H p)=.node:=by obtain ⟨dx,h⟩:=h;rw [h];show tgS "above"=_;decide +kernel
theorem tg_pcs (h:Ob H p C K_Pieces (v::vs)):tg (H p)=.pcs:=by obtain ⟨dx,h⟩:=h;rw [h];show tgS "by_place"=_;decide +kernel
theorem tg_piece (h:Ob H p C K_Piece (v::vs)):tg (H p)=.piece:=by obtain ⟨dx,h⟩:=h;rw [h];show tgS "number"=_;decide +kernel
theorem tg_rows (h:Ob H p C K_Rows (v::vs)):tg (H p)=.rows:=by obtain ⟨dx,h⟩:=h;rw [h];show tgS "size_made"=_;decide +kernel
theorem tg_picks (h:Ob H p C K_Picks (v::vs)):tg (H p)=.picks:=by obtain ⟨dx,h⟩:=h;rw [h];show tgS "rate"=_;decide +kernel
theorem tg_ls {xs:List V} (h:H p=some (.lst xs)):tg (H p)=.ls:=by rw [h];rfl
theorem tg_dK {xs:List (Key × V)} (h:H p=some (.dK xs)):tg (H p)=.dK:=by rw [h];rfl
theorem tg_dT {xs:List (List Key × V)} (h:H p=some (.dT xs)):tg (H p)=.dT:=by rw [h];rfl
theorem tg_tu {xs:List V} (h:H p=some (.tup xs)):tg (H p)=.tu:=by rw [h];rfl
theorem tg_tb {xs:Array Value} (h:H p=some (.tbl xs)):tg (H p)=.tb:=by rw [h];rfl
theorem tg_some (h:tg (H p)≠.no):H p≠none:=fun e=>h (by rw [e];rfl)
theorem tg_ne {q:Addr}{t u:Tg} (h:tg (H p)=t) (h':tg (H q)=u) (n:t≠u:=by decide):p≠q:=fun e=>n (by rw [← h,← h',e])
end
def Fr (H H':Hp) (T:List Tg) (l d:List Addr):Prop:=∀ x,tg (H x)≠.no→tg (H x)∉T→(tg (H x)=.ls→x∉l)→(tg (H x)=.dK→x∉d)→H' x=H x
section
variable {H H':Hp}{T:List Tg}{l d:List Addr}
theorem Fr.at_ (k:Fr H H' T l d) {x:Addr}{t:Tg} (h:tg (H x)=t) (h0:t≠.no:=by decide) (h1:t∉T:=by decide) (h2:t≠.ls:=by decide) (h3:t≠.dK:=by decide):H' x=H x :=
 k x (by rw [h];exact h0) (by rw [h];exact h1) (fun e=>absurd (h.symm.trans e) h2) fun e=>absurd (h.symm.trans e) h3
theorem Fr.ls (k:Fr H H' T l d) {x:Addr} (h:tg (H x)=.ls) (h1:Tg.ls∉T) (h2:x∉l):H' x=H x :=
 k x (by rw [h];decide) (by rw [h];exact h1) (fun _=>h2) fun e=>absurd (h.symm.trans e) (by decide)
theorem Fr.dK (k:Fr H H' T l d) {x:Addr} (h:tg (H x)=.dK) (h1:Tg.dK∉T) (h2:x∉d):H' x=H x :=
 k x (by rw [h];decide) (by rw [h];exact h1) (fun e=>absurd (h.symm.trans e) (by decide)) fun _=>h2
theorem Fr.all (k:∀ x,H x≠none→H' x=H x):Fr H H' [] [] []:=fun x h _ _ _=>k x (tg_some h)
end
section
variable {A:Adr}{H H':Hp}{T:List Tg}{l d:List Addr}
theorem WaysAt.fr {p nl sd:Addr}{as:List Addr}{s:State}{f:Nat→Nm} (R:WaysAt A H p nl sd as s f) (k:Fr H H' T l d) (ht:∀ t∈[Tg.ways,.node,.ls,.dT],t∉T) (hl:nl∉l):WaysAt A H' p nl sd as s f:=by
 obtain ⟨kvs,hd,_⟩:=R.dict
 exact R.keep (k.at_ (tg_ways R.ob) (h1:=ht _ (by decide))) (k.ls (tg_ls R.lst) (ht _ (by decide)) hl) (k.at_ (tg_dT hd) (h1:=ht _ (by decide))) fun j a h=>k.at_ (tg_node (R.obs j a h)) (h1:=ht _ (by decide))
theorem PcsAt.fr {p pd pl:Addr}{L:List (Addr × Piece)}{xs:List Int} (R:PcsAt A H p pd pl L xs) (k:Fr H H' T l d) (ht:∀ t∈[Tg.pcs,.piece,.ls,.dK],t∉T) (hl:pl∉l) (hd:pd∉d):PcsAt A H' p pd pl L xs:=by
 obtain ⟨kvs,hk,_⟩:=R.dict
 exact R.kept (k.at_ (tg_pcs R.ob) (h1:=ht _ (by decide))) (k.dK (tg_dK hk) (ht _ (by decide)) hd) (k.ls (tg_ls R.lst) (ht _ (by decide)) hl) fun x hx=>k.at_ (tg_piece (R.obs x hx)) (h1:=ht _ (by decide))
theorem RowsAt.fr {p l1 l2 l3 l4:Addr}{a b c e:List Int} (R:RowsAt A H p l1 l2 l3 l4 a b c e) (k:Fr H H' T l d) (ht:∀ t∈[Tg.rows,.ls],t∉T) (hl:l1∉l∧l2∉l∧l3∉l∧l4∉l):RowsAt A H' p l1 l2 l3 l4 a b c e:=R.kept fun x hx=>by
 rcases hx with rfl | rfl | rfl | rfl | rfl
 ·exact k.at_ (tg_rows R.ob) (h1:=ht _ (by decide))
 ·exact k.ls (tg_ls R.h1) (ht _ (by decide)) hl.1
 ·exact k.ls (tg_ls R.h2) (ht _ (by decide)) hl.2.1
 ·exact k.ls (tg_ls R.h3) (ht _ (by decide)) hl.2.2.1
 ·exact k.ls (tg_ls R.h4) (ht _ (by decide)) hl.2.2.2
theorem PicksAt.fr {p kd:Addr}{rate off tot:Nat}{g:Nat→Nat × Nat} (R:PicksAt A H p kd rate off tot g) (k:Fr H H' T l d) (ht:∀ t∈[Tg.picks,.tu,.dK],t∉T) (hd:kd∉d):PicksAt A H' p kd rate off tot g:=by
 obtain ⟨kvs,ns,hk,_⟩:=R.dict
 exact R.keep (k.at_ (tg_picks R.ob) (h1:=ht _ (by decide))) (k.dK (tg_dK hk) (ht _ (by decide)) hd) fun t xs h=>k.at_ (tg_tu h) (h1:=ht _ (by decide))
theorem Tups.fr {m:Addr}{rows:List (List Int)} (R:Tups H m rows) (k:Fr H H' T l d) (ht:∀ t∈[Tg.ls,.tu],t∉T) (hl:m∉l):Tups H' m rows:=by
 obtain ⟨ps,e,r,t⟩:=R
 exact ⟨ps,by rw [k.ls (tg_ls e) (ht _ (by decide)) hl];exact e,r,fun p hp=>by rw [k.at_ (tg_tu (t p hp)) (h1:=ht _ (by decide))];exact t p hp⟩
theorem BmH.fr (R:BmH A H) (k:Fr H H' T l d) (ht:Tg.ex∉T):BmH A H':=by
 unfold BmH
 rw [k.at_ (t:=.ex) (by rw [show H A.a_bm=_ from R];rfl) (h1:=ht)];exact R
theorem LamTab.fr {P:Addr}{q:Str}{lp:Pos} (R:LamTab H P q lp) (k:Fr H H' T l d) (ht:∀ t∈[Tg.tb,.ex],t∉T):LamTab H' P q lp:=by
 obtain ⟨ps,e,r⟩:=R
 refine ⟨ps,by rw [k.at_ (tg_tb e) (h1:=ht _ (by decide))];exact e,r.elim .inl fun ⟨c,e1,e2⟩=>.inr ⟨c,e1,by rw [k.at_ (t:=.ex) (by rw [e2];rfl) (h1:=ht _ (by decide))];exact e2⟩⟩
end
structure Bd where
 wy:Addr
 nl:Addr
 sd:Addr
 as:List Addr
 pc:Addr
 pd:Addr
 pl:Addr
 L:List (Addr × Piece)
 xs:List Int
 rw:Addr
 l1:Addr
 l2:Addr
 l3:Addr
 l4:Addr
 pk:Addr
 kd:Addr
 ma:Addr
 ms:List Addr
def Bd.ls (B:Bd):List Addr:=B.nl::B.pl::B.l1::B.l2::B.l3::B.l4::B.ma::B.ms
def Oth (H:Hp) (B:Bd) (x:Addr):Prop:=(tg (H x)=.ls∨tg (H x)=.fz)∧x∉B.ls
def Out (H H':Hp) (B B':Bd):Prop:=∀ x,Oth H B x→H' x=H x∧x∉B'.ls
theorem Out.trans {H1 H2 H3:Hp}{B1 B2 B3:Bd} (h:Out H1 H2 B1 B2) (h':Out H2 H3 B2 B3):Out H1 H3 B1 B3:=fun x o=>by
 obtain ⟨e,n⟩:=h x o
 obtain ⟨e',n'⟩:=h' x ⟨by rw [e];exact o.1,n⟩
 exact ⟨e'.trans e,n'⟩
theorem Fr.out {H H':Hp}{T:List Tg}{l d:List Addr}{B B':Bd} (k:Fr H H' T l d) (ht:∀ t∈[Tg.ls,.fz],t∉T) (hl:∀ x∈l,x∈B.ls) (e:B'.ls=B.ls):Out H H' B B':=fun x o=>by
 refine ⟨?_,by rw [e];exact o.2⟩
 rcases o.1 with h | h
 ·exact k.ls h (ht _ (by decide)) fun q=>o.2 (hl x q)
 ·exact k.at_ h (h1:=ht _ (by decide))
theorem Out.kept {H H':Hp}{B:Bd} (k:∀ x,H x≠none→H' x=H x):Out H H' B B:=(Fr.all k).out (by decide) (by simp) rfl
structure Dt where
 t:Int
 lb:Int
 pb:Int
 pt:Int
 mp:Int
 mb:Int
 wp:Int
 s:State
 f:Nat→Nm
 ra:List Int
 rb:List Int
 rc:List Int
 rd:List Int
 rate:Nat
 off:Nat
 tot:Nat
 g:Nat→Nat × Nat
 marks:List (List (List Int))
def bkV (B:Bd) (D:Dt):List V:=[.int D.t,.ref B.wy,.ref B.pc,.ref B.rw,.ref B.pk,.ref B.ma,.int D.lb,.int D.pb,.int D.pt,.int D.mp,.int D.mb,.int D.wp]
structure At (A:Adr) (H:Hp) (b:Addr) (B:Bd) (D:Dt):Prop where
 ob:Ob H b A.c_Book K_Book (bkV B D)
 ways:WaysAt A H B.wy B.nl B.sd B.as D.s D.f
 pcs:PcsAt A H B.pc B.pd B.pl B.L B.xs
 rows:RowsAt A H B.rw B.l1 B.l2 B.l3 B.l4 D.ra D.rb D.rc D.rd
 picks:PicksAt A H B.pk B.kd D.rate D.off D.tot D.g
 mkl:H B.ma=some (.lst (B.ms.map V.ref))
 mkn:B.ms.length=D.marks.length
 mks:∀ (i:Nat) (m:Addr) (r:List (List Int)),B.ms[i]?=some m→D.marks[i]?=some r→Tups H m r
 bm:BmH A H
 lt1:LamTab H A.t_Pieces_eldest lq_Pieces_eldest lp_Pieces_eldest
 lt2:LamTab H A.t_Ways_most lq_Ways_most lp_Ways_most
 tn:A.t_Pieces_eldest≠A.t_Ways_most
 dn:B.pd≠B.kd
 nd:B.ls.Nodup
section
variable {A:Adr}{H H':Hp}{b:Addr}{B:Bd}{D:Dt}
theorem At.lne (R:At A H b B D) {i j:Nat}{x y:Addr} (hx:B.ls[i]?=some x) (hy:B.ls[j]?=some y) (n:i≠j:=by decide):x≠y:=fun e=>n (nd_ix R.nd hx (by rw [e];exact hy))
theorem At.ln (R:At A H b B D) {i j:Nat}{x y:Addr} (hx:B.ls[i]?=some x) (hy:B.ls[j]?=some y) (n:i≠j:=by decide):x∉[y]:=fun e=>R.lne hx hy n (List.mem_singleton.mp e)
theorem bk_tg (R:At A H b B D):tg (H b)=.book:=tg_book (v:=.int D.t) R.ob
theorem Ob.fr {C p:Addr}{ks:List Str}{vs:List V}{T:List Tg}{l d:List Addr}{t:Tg} (R:Ob H p C ks vs) (k:Fr H H' T l d) (h:tg (H p)=t) (h0:t≠.no:=by decide) (h1:t∉T:=by decide) (h2:t≠.ls:=by decide) (h3:t≠.dK:=by decide):Ob H' p C ks vs:=R.same (k.at_ h h0 h1 h2 h3)
theorem At.kept (R:At A H b B D) (k:∀ x,H x≠none→H' x=H x):At A H' b B D :=
 have k:=Fr.all k
 ⟨R.ob.fr k (bk_tg R),R.ways.fr k (by decide) (by simp),R.pcs.fr k (by decide) (by simp) (by simp),R.rows.fr k (by decide) (by simp),R.picks.fr k (by decide) (by simp),by rw [k.ls (tg_ls R.mkl) (by decide) (by simp)];exact R.mkl,R.mkn,fun i m r h1 h2=>(R.mks i m r h1 h2).fr k (by decide) (by simp),R.bm.fr k (by decide),R.lt1.fr k (by decide),R.lt2.fr k (by decide),R.tn,R.dn,R.nd⟩
theorem At.ways' (R:At A H b B D) {as:List Addr}{s:State}{f:Nat→Nm} (W:WaysAt A H' B.wy B.nl B.sd as s f) (h:∀ x,H x≠none→x≠B.wy→x≠B.nl→x≠B.sd→x∉B.as→H' x=H x):At A H' b { B with as:=as } { D with s:=s,f:=f }∧Out H H' B { B with as:=as }:=by
 obtain ⟨kvs,hd,_⟩:=R.ways.dict
 have k:Fr H H' [.ways,.node,.dT] [B.nl] []:=fun x h0 h1 h2 h3=>h x (tg_some h0) (fun e=>h1 (by rw [e,tg_ways R.ways.ob];decide)) (fun e=>h2 (by rw [e];exact tg_ls R.ways.lst) (by rw [e];simp)) (fun e=>h1 (by rw [e,tg_dT hd];decide)) fun e=>by
  obtain ⟨j,hj⟩:=List.getElem?_of_mem e
  exact h1 (by rw [tg_node (R.ways.obs j x hj)];decide)
 have n:∀ {j:Nat}{y:Addr},B.ls[j+1]?=some y→y∉[B.nl]:=fun {j y} h=>R.ln h (j:=0) rfl (by omega)
 refine ⟨⟨R.ob.fr k (bk_tg R),W,R.pcs.fr k (by decide) (n (j:=0) rfl) (by simp),R.rows.fr k (by decide) ⟨n (j:=1) rfl,n (j:=2) rfl,n (j:=3) rfl,n (j:=4) rfl⟩,R.picks.fr k (by decide) (by simp),by show H' B.ma=_;rw [k.ls (tg_ls R.mkl) (by decide) (n (j:=5) rfl)];exact R.mkl,R.mkn,fun i m r h1 h2=>(R.mks i m r h1 h2).fr k (by decide) (n (j:=i+6) h1),R.bm.fr k (by decide),R.lt1.fr k (by decide),R.lt2.fr k (by decide),R.tn,R.dn,R.nd⟩,k.out (by decide) (by simp [Bd.ls]) rfl⟩
theorem At.pcs' (R:At A H b B D) {L:List (Addr × Piece)}{xs:List Int} (W:PcsAt A H' B.pc B.pd B.pl L xs) (h:∀ x,H x≠none→x≠B.pd→x≠B.pl→tg (H x)≠.piece→H' x=H x):At A H' b { B with L:=L,xs:=xs } D∧Out H H' B { B with L:=L,xs:=xs }:=by
 obtain ⟨kvs,hd,_⟩:=R.pcs.dict
 have k:Fr H H' [.piece] [B.pl] [B.pd]:=fun x h0 h1 h2 h3=>h x (tg_some h0) (fun e=>h3 (by rw [e];exact tg_dK hd) (by rw [e];simp)) (fun e=>h2 (by rw [e];exact tg_ls R.pcs.lst) (by rw [e];simp)) fun e=>h1 (by rw [e];decide)
 have n:∀ {j:Nat}{y:Addr},B.ls[j]?=some y→j≠1→y∉[B.pl]:=fun {j y} h n=>R.ln h (j:=1) rfl n
 refine ⟨⟨R.ob.fr k (bk_tg R),R.ways.fr k (by decide) (n (j:=0) rfl (by decide)),W,R.rows.fr k (by decide) ⟨n (j:=2) rfl (by decide),n (j:=3) rfl (by decide),n (j:=4) rfl (by decide),n (j:=5) rfl (by decide)⟩,R.picks.fr k (by decide) (fun e=>R.dn (List.mem_singleton.mp e).symm),by show H' B.ma=_;rw [k.ls (tg_ls R.mkl) (by decide) (n (j:=6) rfl (by decide))];exact R.mkl,R.mkn,fun i m r h1 h2=>(R.mks i m r h1 h2).fr k (by decide) (n (j:=i+7) h1 (by omega)),R.bm.fr k (by decide),R.lt1.fr k (by decide),R.lt2.fr k (by decide),R.tn,R.dn,R.nd⟩,k.out (by decide) (by simp [Bd.ls]) rfl⟩
theorem At.rows' (R:At A H b B D) {a c d e:List Int} (W:RowsAt A H' B.rw B.l1 B.l2 B.l3 B.l4 a c d e) (h:∀ x,x≠B.l1→x≠B.l2→x≠B.l3→x≠B.l4→H' x=H x):At A H' b B { D with ra:=a,rb:=c,rc:=d,rd:=e }∧Out H H' B B:=by
 have k:Fr H H' [] [B.l1,B.l2,B.l3,B.l4] []:=fun x h0 h1 h2 h3=>h x (fun e=>h2 (by rw [e];exact tg_ls R.rows.h1) (by rw [e];simp)) (fun e=>h2 (by rw [e];exact tg_ls R.rows.h2) (by rw [e];simp)) (fun e=>h2 (by rw [e];exact tg_ls R.rows.h3) (by rw [e];simp)) (fun e=>h2 (by rw [e];exact tg_ls R.rows.h4) (by rw [e];simp))
 have n:∀ {j:Nat}{y:Addr},B.ls[j]?=some y→j<2∨5<j→y∉[B.l1,B.l2,B.l3,B.l4]:=fun {j y} h n=>by
  have q1:=R.lne h (j:=2) (y:=B.l1) rfl (by omega)
  have q2:=R.lne h (j:=3) (y:=B.l2) rfl (by omega)
  have q3:=R.lne h (j:=4) (y:=B.l3) rfl (by omega)
  have q4:=R.lne h (j:=5) (y:=B.l4) rfl (by omega)
  simp [q1,q2,q3,q4]
 refine ⟨⟨R.ob.fr k (bk_tg R),R.ways.fr k (by decide) (n (j:=0) rfl (by decide)),R.pcs.fr k (by decide) (n (j:=1) rfl (by decide)) (by simp),W,R.picks.fr k (by decide) (by simp),by show H' B.ma=_;rw [k.ls (tg_ls R.mkl) (by decide) (n (j:=6) rfl (by decide))];exact R.mkl,R.mkn,fun i m r h1 h2=>(R.mks i m r h1 h2).fr k (by decide) (n (j:=i+7) h1 (by omega)),R.bm.fr k (by decide),R.lt1.fr k (by decide),R.lt2.fr k (by decide),R.tn,R.dn,R.nd⟩,k.out (by decide) (by simp [Bd.ls]) rfl⟩
theorem At.picks' (R:At A H b B D) {rate off tot:Nat}{g:Nat→Nat × Nat} (W:PicksAt A H' B.pk B.kd rate off tot g) (h:∀ x,H x≠none→x≠B.pk→x≠B.kd→H' x=H x):At A H' b B { D with rate:=rate,off:=off,tot:=tot,g:=g }∧Out H H' B B:=by
 obtain ⟨kvs,ns,hd,_⟩:=R.picks.dict
 have k:Fr H H' [.picks] [] [B.kd]:=fun x h0 h1 h2 h3=>h x (tg_some h0) (fun e=>h1 (by rw [e,tg_picks R.picks.ob];decide)) (fun e=>h3 (by rw [e];exact tg_dK hd) (by rw [e];simp))
 refine ⟨⟨R.ob.fr k (bk_tg R),R.ways.fr k (by decide) (by simp),R.pcs.fr k (by decide) (by simp) (fun e=>R.dn (List.mem_singleton.mp e)),R.rows.fr k (by decide) (by simp),W,by show H' B.ma=_;rw [k.ls (tg_ls R.mkl) (by decide) (by simp)];exact R.mkl,R.mkn,fun i m r h1 h2=>(R.mks i m r h1 h2).fr k (by decide) (by simp),R.bm.fr k (by decide),R.lt1.fr k (by decide),R.lt2.fr k (by decide),R.tn,R.dn,R.nd⟩,k.out (by decide) (by simp) rfl⟩
theorem At.ob' (R:At A H b B D) {D':Dt} (W:Ob H' b A.c_Book K_Book (bkV B D')) (h:∀ x,x≠b→H' x=H x) (e:D'={ D with t:=D'.t,lb:=D'.lb,pb:=D'.pb,pt:=D'.pt,mp:=D'.mp,mb:=D'.mb,wp:=D'.wp }):At A H' b B D'∧Out H H' B B:=by
 have k:Fr H H' [.book] [] []:=fun x h0 h1 h2 h3=>h x (fun e=>h1 (by rw [e,bk_tg R];decide))
 rw [e] at W ⊢
 refine ⟨⟨W,R.ways.fr k (by decide) (by simp),R.pcs.fr k (by decide) (by simp) (by simp),R.rows.fr k (by decide) (by simp),R.picks.fr k (by decide) (by simp),by show H' B.ma=_;rw [k.ls (tg_ls R.mkl) (by decide) (by simp)];exact R.mkl,R.mkn,fun i m r h1 h2=>(R.mks i m r h1 h2).fr k (by decide) (by simp),R.bm.fr k (by decide),R.lt1.fr k (by decide),R.lt2.fr k (by decide),R.tn,R.dn,R.nd⟩,k.out (by decide) (by simp) rfl⟩
theorem At.mark' (R:At A H b B D) {m:Addr}{r:List (List Int)} (W:H' B.ma=some (.lst ((B.ms++[m]).map V.ref))) (t:Tups H m r) (hm:m∉B.ls) (h:∀ x,x≠B.ma→H' x=H x):At A H' b { B with ms:=B.ms++[m] } { D with marks:=D.marks++[r] }:=by
 have k:Fr H H' [] [B.ma] []:=fun x h0 h1 h2 h3=>h x (fun e=>h2 (by rw [e];exact tg_ls R.mkl) (by rw [e];simp))
 have n:∀ {j:Nat}{y:Addr},B.ls[j]?=some y→j≠6→y∉[B.ma]:=fun {j y} h n=>R.ln h (j:=6) rfl n
 have nd:(B.ls++[m]).Nodup:=List.nodup_append.mpr ⟨R.nd,by simp,fun a ha c hc=>by rw [List.mem_singleton.mp hc];rintro rfl;exact hm ha⟩
 refine ⟨R.ob.fr k (bk_tg R),R.ways.fr k (by decide) (n (j:=0) rfl (by decide)),R.pcs.fr k (by decide) (n (j:=1) rfl (by decide)) (by simp),R.rows.fr k (by decide) ⟨n (j:=2) rfl (by decide),n (j:=3) rfl (by decide),n (j:=4) rfl (by decide),n (j:=5) rfl (by decide)⟩,R.picks.fr k (by decide) (by simp),W,by show (B.ms++[m]).length=(D.marks++[r]).length;rw [List.length_append,List.length_append,R.mkn];rfl,fun i x y h1 h2=>?_,R.bm.fr k (by decide),R.lt1.fr k (by decide),R.lt2.fr k (by decide),R.tn,R.dn,nd⟩
 have h1:(B.ms++[m])[i]?=some x:=h1
 have h2:(D.marks++[r])[i]?=some y:=h2
 by_cases hi:i<B.ms.length
 ·rw [List.getElem?_append_left hi] at h1
  rw [List.getElem?_append_left (by rw [← R.mkn];exact hi)] at h2
  exact (R.mks i x y h1 h2).fr k (by decide) (n (j:=i+7) h1 (by omega))
 ·have hl:=(List.getElem?_eq_some_iff.mp h1).1
  rw [List.length_append] at hl
  have hl:i<B.ms.length+1:=hl
  have e:i=B.ms.length:=by omega
  subst e
  rw [List.getElem?_concat_length] at h1
  rw [R.mkn,List.getElem?_concat_length] at h2
  cases h1;cases h2
  exact t.fr k (by decide) (fun e=>hm (by rw [List.mem_singleton.mp e];simp [Bd.ls]))
theorem At.tab1 (R:At A H b B D) (W:LamTab H' A.t_Pieces_eldest lq_Pieces_eldest lp_Pieces_eldest) (h:∀ x,H x≠none→x≠A.t_Pieces_eldest→H' x=H x):At A H' b B D∧Out H H' B B:=by
 obtain ⟨ps,hp,_⟩:=R.lt1
 have k:Fr H H' [.tb] [] []:=fun x h0 h1 h2 h3=>h x (tg_some h0) (fun e=>h1 (by rw [e,tg_tb hp];decide))
 refine ⟨?_,k.out (by decide) (by simp) rfl⟩
 refine ⟨R.ob.fr k (bk_tg R),R.ways.fr k (by decide) (by simp),R.pcs.fr k (by decide) (by simp) (by simp),R.rows.fr k (by decide) (by simp),R.picks.fr k (by decide) (by simp),by rw [k.ls (tg_ls R.mkl) (by decide) (by simp)];exact R.mkl,R.mkn,fun i m r h1 h2=>(R.mks i m r h1 h2).fr k (by decide) (by simp),R.bm.fr k (by decide),W,?_,R.tn,R.dn,R.nd⟩
 obtain ⟨ps,e,r⟩:=R.lt2
 exact ⟨ps,by rw [h _ (by rw [e];simp) R.tn.symm];exact e,r.elim .inl fun ⟨c,e1,e2⟩=>.inr ⟨c,e1,by rw [k.at_ (t:=.ex) (by rw [e2];rfl)];exact e2⟩⟩
theorem At.tab2 (R:At A H b B D) (W:LamTab H' A.t_Ways_most lq_Ways_most lp_Ways_most) (h:∀ x,H x≠none→x≠A.t_Ways_most→H' x=H x):At A H' b B D∧Out H H' B B:=by
 obtain ⟨ps,hp,_⟩:=R.lt2
 have k:Fr H H' [.tb] [] []:=fun x h0 h1 h2 h3=>h x (tg_some h0) (fun e=>h1 (by rw [e,tg_tb hp];decide))
 refine ⟨?_,k.out (by decide) (by simp) rfl⟩
 refine ⟨R.ob.fr k (bk_tg R),R.ways.fr k (by decide) (by simp),R.pcs.fr k (by decide) (by simp) (by simp),R.rows.fr k (by decide) (by simp),R.picks.fr k (by decide) (by simp),by rw [k.ls (tg_ls R.mkl) (by decide) (by simp)];exact R.mkl,R.mkn,fun i m r h1 h2=>(R.mks i m r h1 h2).fr k (by decide) (by simp),R.bm.fr k (by decide),?_,W,R.tn,R.dn,R.nd⟩
 obtain ⟨ps,e,r⟩:=R.lt1
 exact ⟨ps,by rw [h _ (by rw [e];simp) R.tn];exact e,r.elim .inl fun ⟨c,e1,e2⟩=>.inr ⟨c,e1,by rw [k.at_ (t:=.ex) (by rw [e2];rfl)];exact e2⟩⟩
end
end Bk
namespace Bk
open PySem L2
open Sh28
def numOf (s:State) (k:Nat):Nm:=⟨((nodeAt s k).made:Nat),((nodeAt s k).bytes:Nat),(cnt (fun j=>j == k) s.live:Nat),(sm (fun j=>j == k) s.live:Nat),((nodeAt s k).peak:Nat),(cnt (under s k) s.live:Nat),(sm (under s k) s.live:Nat),(amOf s k:Nat)⟩
def liveRow (l:List Piece):List Int:=(List.range 124).map fun i=>((cls i l:Nat):Int)
def dt (s:State):Dt where
 t:=s.time
 lb:=(sumOf s.live:Nat)
 pb:=s.peak
 pt:=s.peakAt
 mp:=s.made
 mb:=s.bytes
 wp:=s.went
 s:=s
 f:=numOf s
 ra:=Sh28.ints s.sizes
 rb:=liveRow s.live
 rc:=s.ages.map fun x=>(x.1:Int)
 rd:=s.ages.map fun x=>(x.2:Int)
 rate:=s.rate
 off:=s.off
 tot:=(s.nodes.map fun n=>n.picks).sum
 g:=fun k=>((nodeAt s k).picks,(nodeAt s k).rates)
 marks:=s.marks.map fun m=>m.map pairRow
structure BookAt (A:Adr) (H:Hp) (b:Addr) (B:Bd) (s:State):Prop where
 at_:At A H b B (dt s)
 live:(B.L.map (·.2)).Perm s.live
 good:Good s
section
variable {s t:State}
theorem under_like (h:t.nodes=s.nodes) (k:Nat):under t k=under s k:=funext fun j=>(shape_nodes h).under k j
theorem numOf_like (h:t.nodes=s.nodes) (hl:t.live=s.live):numOf t=numOf s:=funext fun k=>by
 unfold numOf amOf
 have e:∀ j,nodeAt t j=nodeAt s j:=fun j=>by unfold nodeAt;rw [h]
 simp only [e,hl,h,under_like h k]
theorem num_begun:∀ j,j<begun.nodes.length→zeroN=numOf begun j:=fun j hj=>by
 have hj:j<1:=hj
 have e:j=0:=by omega
 subst e
 rfl
theorem sum_zero:∀ {l:List Nat},(∀ x∈l,x=0)→l.sum=0
 | [],_=>rfl
 | x::l,h=>by rw [List.sum_cons,h x List.mem_cons_self,sum_zero fun y hy=>h y (List.mem_cons_of_mem _ hy)]
theorem cnt_false (l:List Piece) {h:Nat→Bool} (e:∀ p∈l,h p.node=false):cnt h l=0:=by
 rw [cnt_congr (h':=fun _=>false) e]
 unfold cnt
 rw [List.filter_eq_nil_iff.mpr (fun _ _=>Bool.false_ne_true)];rfl
theorem sm_false (l:List Piece) {h:Nat→Bool} (e:∀ p∈l,h p.node=false):sm h l=0:=by
 rw [sm_congr (h':=fun _=>false) e]
 unfold sm
 rw [List.filter_eq_nil_iff.mpr (fun _ _=>Bool.false_ne_true)];rfl
theorem num_grown (G:Good s) {w:Nat}{j:Nat} (hj:j<s.nodes.length+1):(if j=s.nodes.length then zeroN else numOf s j)=numOf { s with nodes:=s.nodes++[⟨s.at_,w,0,0,0,0,0⟩],at_:=s.nodes.length } j:=by
 have W:=G.wf
 have sh:Shape (grown s ⟨s.at_,w,0,0,0,0,0⟩) { s with nodes:=s.nodes++[⟨s.at_,w,0,0,0,0,0⟩],at_:=s.nodes.length }:=rfl
 have hu:∀ {i k:Nat},i<s.nodes.length→k<s.nodes.length→under { s with nodes:=s.nodes++[⟨s.at_,w,0,0,0,0,0⟩],at_:=s.nodes.length } i k=under s i k:=fun {i k} hi hk=>by rw [sh.under];exact grown_under W hi hk
 have hA:∀ {k:Nat},k<s.nodes.length→nodeAt { s with nodes:=s.nodes++[⟨s.at_,w,0,0,0,0,0⟩],at_:=s.nodes.length } k=nodeAt s k:=fun {k} hk=>grown_at (s:=s) (n:=⟨s.at_,w,0,0,0,0,0⟩) hk
 have hN:nodeAt { s with nodes:=s.nodes++[⟨s.at_,w,0,0,0,0,0⟩],at_:=s.nodes.length } s.nodes.length=⟨s.at_,w,0,0,0,0,0⟩:=grown_new (s:=s) (n:=⟨s.at_,w,0,0,0,0,0⟩)
 have hlen:(s.nodes++[(⟨s.at_,w,0,0,0,0,0⟩:Node)]).length=s.nodes.length+1:=by simp
 by_cases e:j=s.nodes.length
 ·subst e
  rw [if_pos rfl]
  have hno:∀ {k:Nat},k<s.nodes.length→under { s with nodes:=s.nodes++[⟨s.at_,w,0,0,0,0,0⟩],at_:=s.nodes.length } s.nodes.length k=false:=fun {k} hk=>by
   rw [sh.under]
   unfold under
   rw [Bool.and_eq_false_iff]
   right
   rw [grown_up W _ hk,beq_eq_false_iff_ne]
   exact Nat.ne_of_lt (up_lt W _ hk)
  have ham:amOf { s with nodes:=s.nodes++[⟨s.at_,w,0,0,0,0,0⟩],at_:=s.nodes.length } s.nodes.length=0:=by
   unfold amOf
   refine sum_zero fun x hx=>?_
   obtain ⟨k,hk,rfl⟩:=List.mem_map.mp hx
   rw [List.mem_filter,List.mem_range] at hk
   have hk1:k<(s.nodes++[_]).length:=hk.1
   rw [hlen] at hk1
   by_cases hk2:k<s.nodes.length
   ·rw [hno hk2] at hk;cases hk.2
   ·have:k=s.nodes.length:=by omega
    subst this
    rw [hN]
  unfold numOf
  rw [ham,hN]
  show zeroN=⟨0,0,(cnt _ s.live:Nat),(sm _ s.live:Nat),0,(cnt _ s.live:Nat),(sm _ s.live:Nat),0⟩
  rw [cnt_false (h:=fun i=>i == s.nodes.length) s.live fun p hp=>by have:=G.node p hp;simp;omega,sm_false (h:=fun i=>i == s.nodes.length) s.live fun p hp=>by have:=G.node p hp;simp;omega,
   cnt_false s.live fun p hp=>hno (G.node p hp),sm_false s.live fun p hp=>hno (G.node p hp)]
  rfl
 ·rw [if_neg e]
  have hj:j<s.nodes.length:=by omega
  unfold numOf
  have ham:amOf { s with nodes:=s.nodes++[⟨s.at_,w,0,0,0,0,0⟩],at_:=s.nodes.length } j=amOf s j:=by
   unfold amOf
   show (((List.range (s.nodes++[_]).length).filter _).map _).sum=_
   rw [hlen,List.range_succ,List.filter_append,List.map_append,List.sum_append]
   have h1:(List.range s.nodes.length).filter (under { s with nodes:=s.nodes++[⟨s.at_,w,0,0,0,0,0⟩],at_:=s.nodes.length } j)=(List.range s.nodes.length).filter (under s j) :=
    List.filter_congr fun k hk=>hu hj (List.mem_range.mp hk)
   have h2:(((List.range s.nodes.length).filter (under s j)).map fun k=>(nodeAt { s with nodes:=s.nodes++[⟨s.at_,w,0,0,0,0,0⟩],at_:=s.nodes.length } k).bytes)=(((List.range s.nodes.length).filter (under s j)).map fun k=>(nodeAt s k).bytes) :=
    List.map_congr_left fun k hk=>by rw [hA (List.mem_range.mp (List.mem_filter.mp hk).1)]
   rw [h1,h2]
   have h3:(([s.nodes.length].filter (under { s with nodes:=s.nodes++[⟨s.at_,w,0,0,0,0,0⟩],at_:=s.nodes.length } j)).map fun k=>(nodeAt { s with nodes:=s.nodes++[⟨s.at_,w,0,0,0,0,0⟩],at_:=s.nodes.length } k).bytes).sum=0:=by
    refine sum_zero fun x hx=>?_
    obtain ⟨k,hk,rfl⟩:=List.mem_map.mp hx
    have:=List.mem_singleton.mp (List.mem_filter.mp hk).1
    subst this
    rw [hN]
   rw [h3];rfl
  rw [hA hj,ham]
  have h1:=cnt_congr (l:=s.live) (h:=under { s with nodes:=s.nodes++[⟨s.at_,w,0,0,0,0,0⟩],at_:=s.nodes.length } j) (h':=under s j) fun p hp=>hu hj (G.node p hp)
  have h2:=sm_congr (l:=s.live) (h:=under { s with nodes:=s.nodes++[⟨s.at_,w,0,0,0,0,0⟩],at_:=s.nodes.length } j) (h':=under s j) fun p hp=>hu hj (G.node p hp)
  show _=Nm.mk _ _ _ _ _ ((cnt _ s.live:Nat):Int) ((sm _ s.live:Nat):Int) _
  rw [h1,h2]
def addMade (s:State) (k:Nat) (z:Int) (f:Nat→Nm):Nat→Nm:=fun j=>{ f j with mp:=(f j).mp+(if j=k then 1 else 0),mb:=(f j).mb+(if j=k then z else 0),am:=(f j).am+if under s j k then z else 0 }
def addLive (s:State) (k:Nat) (dp db:Int) (f:Nat→Nm):Nat→Nm:=fun j=>{ f j with lp:=(f j).lp+(if j=k then dp else 0),lb:=(f j).lb+(if j=k then db else 0),pk:=if j=k then max (f j).pk ((f j).lb+db) else (f j).pk,ap:=(f j).ap+(if under s j k then dp else 0),al:=(f j).al+if under s j k then db else 0 }
theorem am_made (G:Good s) (p z j:Nat):amOf (madePiece s p z) j=amOf s j+if under s j s.at_=true then z else 0:=by
 have W:=G.wf
 have hu:under (madePiece s p z) j=under s j:=funext fun k=>(made_shape p z).under j k
 unfold amOf
 rw [made_len,hu]
 rw [sum_bump (f:=fun k=>(nodeAt s k).bytes) (g:=fun k=>(nodeAt (madePiece s p z) k).bytes) (a:=s.at_) (z:=z) (fun k=>by
  rw [made_node W]
  by_cases e:k=s.at_
  ·rw [if_pos e,if_pos e,e]
  ·rw [if_neg e,if_neg e];rfl) (List.nodup_range.filter _)]
 congr 1
 by_cases u:under s j s.at_=true
 ·rw [if_pos (List.mem_filter.mpr ⟨List.mem_range.mpr W.at_,u⟩),if_pos u]
 ·rw [if_neg (fun h=>u (List.mem_filter.mp h).2),if_neg u]
theorem num_made (G:Good s) {p z:Nat} (j:Nat):addLive s s.at_ 1 z (addMade s s.at_ z (numOf s)) j=numOf (madePiece s p z) j:=by
 have W:=G.wf
 have hu:under (madePiece s p z) j=under s j:=funext fun k=>(made_shape p z).under j k
 have hP:=made_perm (s:=s) p z
 unfold numOf
 rw [made_node W,am_made G,hu,cnt_perm hP,sm_perm hP,cnt_perm hP,sm_perm hP,cnt_cons,sm_cons,cnt_cons,sm_cons]
 unfold addLive addMade
 have hs:((s.at_ == j)=true)↔j=s.at_:=by rw [beq_iff_eq];exact eq_comm
 by_cases e:j=s.at_
 ·subst e
  by_cases u:under s s.at_ s.at_=true
  ·simp only [if_pos,u,beq_self_eq_true,if_true,Nm.mk.injEq,true_and,and_true];omega
  ·simp only [if_pos,u,beq_self_eq_true,if_true,Nm.mk.injEq];simp;omega
 ·have e2:¬ (s.at_ == j)=true:=fun h=>e (hs.mp h)
  by_cases u:under s j s.at_=true
  ·simp only [if_neg e,if_neg e2,u,if_true,Nm.mk.injEq,true_and,and_true];omega
  ·simp only [if_neg e,if_neg e2,if_neg u,Nm.mk.injEq,true_and,and_true];omega
theorem num_gone (G:Good s) {q:Piece} (hq:q∈s.live) {j:Nat} (hj:j<s.nodes.length):addLive s q.node (-1) (-(q.size:Int)) (numOf s) j=numOf (gone s q) j:=by
 have hP:=perm_rest G.num hq
 have hpk:=G.pk j hj
 unfold numOf
 unfold addLive
 have e1:=cnt_perm (h:=fun i=>i == j) hP
 have e2:=sm_perm (h:=fun i=>i == j) hP
 have e3:=cnt_perm (h:=under s j) hP
 have e4:=sm_perm (h:=under s j) hP
 rw [cnt_cons] at e1 e3
 rw [sm_cons] at e2 e4
 have hu:under (gone s q) j=under s j:=funext fun k=>(show Shape s (gone s q) from rfl).under j k
 have ha:amOf (gone s q) j=amOf s j:=by unfold amOf;rw [hu];rfl
 have hn:nodeAt (gone s q) j=nodeAt s j:=rfl
 have hl:(gone s q).live=s.live.filter fun x=>x.number != q.number:=rfl
 rw [hu,ha,hn,hl]
 by_cases e:j=q.node
 ·have e':(q.node == j)=true:=by rw [beq_iff_eq];exact e.symm
  rw [if_pos e'] at e1 e2
  by_cases u:under s j q.node=true
  ·rw [if_pos u] at e3 e4
   simp only [if_pos e,u,if_true,Nm.mk.injEq,true_and,and_true];omega
  ·rw [if_neg u] at e3 e4
   simp only [if_pos e,if_neg u,Nm.mk.injEq,true_and,and_true];omega
 ·have e':¬ (q.node == j)=true:=by rw [beq_iff_eq];exact fun h=>e h.symm
  rw [if_neg e'] at e1 e2
  by_cases u:under s j q.node=true
  ·rw [if_pos u] at e3 e4
   simp only [if_neg e,u,if_true,Nm.mk.injEq,true_and,and_true];omega
  ·rw [if_neg u] at e3 e4
   simp only [if_neg e,if_neg u,Nm.mk.injEq,true_and,and_true];omega
theorem num_moved (G:Good s) {q:Piece} (hq:q∈s.live) {t z j:Nat}:addLive s q.node 0 ((z:Int) - (q.size:Int)) (numOf s) j=numOf (movedPiece s q t z) j:=by
 have hP:=perm_rest G.num hq
 have hP':(movedPiece s q t z).live.Perm ({ q with place:=t,size:=z }::s.live.filter fun x=>x.number != q.number):=moved_perm G hq t z
 have hu:under (movedPiece s q t z) j=under s j:=funext fun k=>(moved_shape q t z).under j k
 have ha:amOf (movedPiece s q t z) j=amOf s j:=by
  unfold amOf
  rw [moved_len,hu]
  refine congrArg List.sum (List.map_congr_left fun k _=>?_)
  rw [moved_node G hq]
  by_cases e:k=q.node
  ·rw [if_pos e,e]
  ·rw [if_neg e]
 have e1:=cnt_perm (h:=fun i=>i == j) hP
 have e2:=sm_perm (h:=fun i=>i == j) hP
 have e3:=cnt_perm (h:=under s j) hP
 have e4:=sm_perm (h:=under s j) hP
 rw [cnt_cons] at e1 e3
 rw [sm_cons] at e2 e4
 unfold numOf
 rw [hu,ha,moved_node G hq,cnt_perm hP',sm_perm hP',cnt_perm hP',sm_perm hP',cnt_cons,sm_cons,cnt_cons,sm_cons]
 unfold addLive
 by_cases e:j=q.node
 ·have e':(q.node == j)=true:=by rw [beq_iff_eq];exact e.symm
  rw [if_pos e'] at e1 e2
  subst e
  by_cases u:under s q.node q.node=true
  ·rw [if_pos u] at e3 e4
   simp only [if_pos,e',u,if_true,Nm.mk.injEq,true_and,and_true];omega
  ·rw [if_neg u] at e3 e4
   simp only [if_pos,e',if_true,if_neg u,Nm.mk.injEq,true_and,and_true];omega
 ·have e':¬ (q.node == j)=true:=by rw [beq_iff_eq];exact fun h=>e h.symm
  rw [if_neg e'] at e1 e2
  by_cases u:under s j q.node=true
  ·rw [if_pos u] at e3 e4
   simp only [if_neg e,if_neg e',u,if_true,Nm.mk.injEq,true_and,and_true];omega
  ·rw [if_neg u] at e3 e4
   simp only [if_neg e,if_neg e',if_neg u,Nm.mk.injEq,true_and,and_true];omega
theorem bumpI_range (f:Nat→Int) (n c:Nat) (d:Int):bumpI ((List.range n).map f) c d=(List.range n).map fun i=>f i+if i=c then d else 0:=by
 unfold bumpI
 refine List.ext_getElem? fun i=>?_
 by_cases e:i=c
 ·subst e
  by_cases hi:i<n
  ·rw [List.getElem?_set_self (by simpa using hi),List.getElem?_map,List.getElem?_range hi,List.getD_eq_getElem?_getD,List.getElem?_map,List.getElem?_range hi]
   simp
  ·rw [List.getElem?_eq_none (by simp;omega),List.getElem?_eq_none (by simp;omega)]
 ·rw [List.getElem?_set_ne (Ne.symm e),List.getElem?_map,List.getElem?_map]
  by_cases hi:i<n
  ·rw [List.getElem?_range hi];simp [e]
  ·rw [List.getElem?_eq_none (l:=List.range n) (by simp;omega)];rfl
theorem liveRow_cons (p:Piece) (l:List Piece):liveRow (p::l)=bumpI (liveRow l) (classOf p.size) 1:=by
 unfold liveRow
 rw [bumpI_range]
 refine List.map_congr_left fun i _=>?_
 rw [cls_cons]
 by_cases e:i=classOf p.size
 ·rw [if_pos e,if_pos e.symm];omega
 ·rw [if_neg e,if_neg (Ne.symm e)];omega
theorem liveRow_perm {l l':List Piece} (h:l.Perm l'):liveRow l=liveRow l':=by
 unfold liveRow
 exact List.map_congr_left fun i _=>by rw [cls_perm h]
theorem bumpI_off (l:List Int) (c:Nat):bumpI (bumpI l c 1) c (-1)=l:=by
 unfold bumpI
 rw [List.set_set,List.getD_eq_getElem?_getD]
 by_cases h:c<l.length
 ·rw [List.getElem?_set_self h,List.getD_eq_getElem?_getD,List.getElem?_eq_getElem h]
  show l.set c (l[c]+1 + -1)=l
  rw [show l[c]+1 + -1=l[c] from by omega,List.set_getElem_self]
 ·rw [List.set_eq_of_length_le (by omega)]
theorem ints_bump (l:List Nat) (c:Nat):Sh28.ints (Sh28.bump l c)=bumpI (Sh28.ints l) c 1:=by
 unfold Sh28.ints Sh28.bump bumpI
 rw [List.map_set]
 congr 1
 rw [List.getD_eq_getElem?_getD,List.getD_eq_getElem?_getD,List.getElem?_map]
 cases l[c]?<;>rfl
theorem ages_set (l:List (Nat × Nat)) (a z:Nat) :
  ((l.set a ((l.getD a (0,0)).1+1,(l.getD a (0,0)).2+z)).map fun x=>(x.1:Int))=bumpI (l.map fun x=>(x.1:Int)) a 1 ∧
  ((l.set a ((l.getD a (0,0)).1+1,(l.getD a (0,0)).2+z)).map fun x=>(x.2:Int))=bumpI (l.map fun x=>(x.2:Int)) a z:=by
 unfold bumpI
 rw [List.map_set,List.map_set]
 constructor<;>congr 1<;>rw [List.getD_eq_getElem?_getD,List.getD_eq_getElem?_getD,List.getElem?_map]<;>cases l[a]?<;>simp
theorem nodes_map {α:Type} (s:State) (h:Node→α):s.nodes.map h=(List.range s.nodes.length).map fun k=>h (nodeAt s k):=by
 refine List.ext_getElem? fun i=>?_
 rw [List.getElem?_map,List.getElem?_map]
 by_cases hi:i<s.nodes.length
 ·rw [List.getElem?_range hi,List.getElem?_eq_getElem hi]
  show some (h s.nodes[i])=some (h (s.nodes.getD i _))
  rw [List.getD_eq_getElem?_getD,List.getElem?_eq_getElem hi];rfl
 ·rw [List.getElem?_eq_none (by omega),List.getElem?_eq_none (by simp;omega)];rfl
theorem tot_made (G:Good s) (p z:Nat):((madePiece s p z).nodes.map fun n=>n.picks).sum=(s.nodes.map fun n=>n.picks).sum+if s.rate=0 then 0 else (s.off+z) / s.rate:=by
 rw [nodes_map,nodes_map,made_len,sum_bump (f:=fun k=>(nodeAt s k).picks) (g:=fun k=>(nodeAt (madePiece s p z) k).picks) (a:=s.at_) (z:=if s.rate=0 then 0 else (s.off+z) / s.rate) (fun k=>by
  rw [made_node G.wf]
  by_cases e:k=s.at_
  ·rw [if_pos e,if_pos e,e]
  ·rw [if_neg e,if_neg e];rfl) List.nodup_range,if_pos (List.mem_range.mpr G.wf.at_)]
end
section
variable {A:Adr}{H H':Hp}{b:Addr}{B:Bd}
theorem WaysAt.shape {p nl sd:Addr}{as:List Addr}{s t:State}{f g:Nat→Nm} (R:WaysAt A H p nl sd as s f) (h:Shape s t) (ha:t.at_=s.at_) (e:∀ j,j<s.nodes.length→f j=g j):WaysAt A H p nl sd as t g:=by
 obtain ⟨kvs,hd,hl,hv⟩:=R.dict
 refine ⟨by rw [ha];exact R.ob,R.lst,by rw [h.len];exact R.len,fun j a hj=>?_,⟨kvs,hd,by rw [h.len];exact hl,fun a w=>by rw [h.child];exact hv a w⟩,R.nd⟩
 have:=R.obs j a hj
 rw [e j (by rw [← R.len];exact (List.getElem?_eq_some_iff.mp hj).1)] at this
 unfold ndV at this ⊢
 rw [h.depth,(h.at j).1,(h.at j).2]
 exact this
theorem At.eqv {D D':Dt} (R:At A H b B D) (hs:Shape D.s D'.s) (ha:D'.s.at_=D.s.at_) (hf:∀ j,j<D.s.nodes.length→D.f j=D'.f j) (e:{ D with s:=D'.s,f:=D'.f }=D'):At A H b B D':=by
 have h:=R.ways.shape hs ha hf
 rw [← e]
 exact ⟨R.ob,h,R.pcs,R.rows,R.picks,R.mkl,R.mkn,R.mks,R.bm,R.lt1,R.lt2,R.tn,R.dn,R.nd⟩
theorem BookAt.kept {s:State} (R:BookAt A H b B s) (k:∀ x,H x≠none→H' x=H x):BookAt A H' b B s:=⟨R.at_.kept k,R.live,R.good⟩
def ansOf (s:State) (c:Call):List Int:=(does s c).2.v::(does s c).2.l
def Ends (A:Adr) (H:Hp) (b:Addr) (B:Bd) (s:State) (c:Call) (Q:VK):Prop:=∀ (r:Addr) (H':Hp) (B':Bd),BookAt A H' b B' (does s c).1→H' r=some (.lst ((ansOf s c).map V.int))→(∀ x,Oth H B x→x≠r)→Out H H' B B'→Q (.ref r) H'
theorem Oth.some {x:Addr} (o:Oth H B x):H x≠none:=fun e=>by
 rcases o.1 with h | h<;>rw [e] at h<;>cases h
theorem Out.fresh {H1:Hp}{B1:Bd} (O:Out H H1 B B1) {r:Addr} (hr:H1 r=none):∀ x,Oth H B x→x≠r:=fun x o e=>by
 have:=(O x o).1
 rw [e,hr] at this
 exact o.some (by rw [e];exact this.symm)
theorem Ends.lst {s:State}{c:Call}{Q:VK}{H1:Hp}{B1:Bd}{vs:List Int} (E:Ends A H b B s c Q) (R:BookAt A H1 b B1 (does s c).1) (O:Out H H1 B B1) (hv:ansOf s c=vs):∀ r,H1 r=none→Q (.ref r) (upd H1 r (.lst (vs.map V.int))):=fun r hr=>by
 have e1:∀ x,H1 x≠none→upd H1 r (.lst (vs.map V.int)) x=H1 x:=fun x hx=>upd_ne fun e=>hx (by rw [e];exact hr)
 exact E r _ B1 (R.kept e1) (by rw [upd_same,hv]) (O.fresh hr) (O.trans (Out.kept e1))
theorem Ends.one {s:State}{c:Call}{Q:VK}{H1:Hp}{B1:Bd}{v:Int} (E:Ends A H b B s c Q) (R:BookAt A H1 b B1 (does s c).1) (O:Out H H1 B B1) (hv:ansOf s c=[v]):1≤sizeLine∧∀ r,H1 r=none→Q (.ref r) (upd H1 r (.lst [.int v])):=⟨by decide,E.lst R O hv⟩
theorem Ends.same {s:State}{c:Call}{Q:VK}{v:Int} (E:Ends A H b B s c Q) (R:BookAt A H b B s) (h:does s c=(s,⟨v,[]⟩)):1≤sizeLine∧∀ r,H r=none→Q (.ref r) (upd H r (.lst [.int v])) :=
 E.one (H1:=H) (B1:=B) (by rw [h];exact R) (Out.kept fun _ _=>rfl) (by unfold ansOf;rw [h])
end
end Bk
namespace Bk
open PySem L2
open Sh28 (State nodeAt depthOf child up under wayUp pathOf findWay begun Piece does num isWho)
theorem nwT {n:Nat}{m:Int} (c:(!decide (0≤(n:Int)∧(n:Int)≤m))=true):m<n:=by
 rw [Bool.not_eq_true',decide_eq_false_iff_not] at c
 omega
theorem nwF {n:Nat}{m:Int} (c:¬ (!decide (0≤(n:Int)∧(n:Int)≤m))=true):n≤m:=by
 rw [Bool.not_eq_true',decide_eq_false_iff_not] at c
 omega
section
variable {A:Adr}{H H':Hp}{b:Addr}{B:Bd}{s:State}
theorem BookAt.moveAt (R:BookAt A H b B s) {k:Nat} (hk:k<s.nodes.length) (W:WaysAt A H' B.wy B.nl B.sd B.as { s with at_:=k } (numOf s)) (e:∀ x,H x≠none→x≠B.wy→H' x=H x):BookAt A H' b B { s with at_:=k }∧Out H H' B B:=by
 obtain ⟨h1,h2⟩:=R.at_.ways' W fun x hx n _ _ _=>e x hx n
 exact ⟨⟨h1.eqv (D':=dt { s with at_:=k }) rfl rfl (fun j _=>congrFun (numOf_like (s:=s) (t:={ s with at_:=k }) rfl rfl).symm j) rfl,R.live,good_at R.good hk⟩,h2⟩
theorem BookAt.grow (R:BookAt A H b B s) {a:Addr}{w:Nat} (hl:s.nodes.length<4096) (hd:depthOf s s.at_<64) (hw:w<65536) (hc:child s s.at_ w=none) (W:WaysAt A H' B.wy B.nl B.sd (B.as++[a]) { s with nodes:=s.nodes++[⟨s.at_,w,0,0,0,0,0⟩],at_:=s.nodes.length } (fun j=>if j=s.nodes.length then zeroN else numOf s j))
  (e:∀ x,H x≠none→x≠B.wy→x≠B.nl→x≠B.sd→H' x=H x):BookAt A H' b { B with as:=B.as++[a] } { s with nodes:=s.nodes++[⟨s.at_,w,0,0,0,0,0⟩],at_:=s.nodes.length }∧Out H H' B { B with as:=B.as++[a] }:=by
 obtain ⟨h1,h2⟩:=R.at_.ways' W fun x hx n m o _=>e x hx n m o
 refine ⟨⟨h1.eqv (D':=dt { s with nodes:=s.nodes++[⟨s.at_,w,0,0,0,0,0⟩],at_:=s.nodes.length }) rfl rfl (fun j hj=>num_grown R.good (by simpa using hj)) ?_,R.live,good_grown R.good hl hd hw hc⟩,h2⟩
 have ht:((s.nodes++[(⟨s.at_,w,0,0,0,0,0⟩:Sh28.Node)]).map fun n=>n.picks).sum=(s.nodes.map fun n=>n.picks).sum:=by rw [List.map_append,List.sum_append];rfl
 have hg:(fun k=>((nodeAt { s with nodes:=s.nodes++[⟨s.at_,w,0,0,0,0,0⟩],at_:=s.nodes.length } k).picks,(nodeAt { s with nodes:=s.nodes++[⟨s.at_,w,0,0,0,0,0⟩],at_:=s.nodes.length } k).rates))=fun k=>((nodeAt s k).picks,(nodeAt s k).rates):=funext fun k=>by
  by_cases hk:k<s.nodes.length
  ·have:nodeAt { s with nodes:=s.nodes++[⟨s.at_,w,0,0,0,0,0⟩],at_:=s.nodes.length } k=nodeAt s k:=grown_at (s:=s) (n:=⟨s.at_,w,0,0,0,0,0⟩) hk
   rw [this]
  ·have h0:nodeAt s k=⟨0,0,0,0,0,0,0⟩:=by unfold nodeAt;rw [List.getD_eq_getElem?_getD,List.getElem?_eq_none (by omega)];rfl
   rw [h0]
   by_cases e:k=s.nodes.length
   ·subst e
    have:nodeAt { s with nodes:=s.nodes++[⟨s.at_,w,0,0,0,0,0⟩],at_:=s.nodes.length } s.nodes.length=⟨s.at_,w,0,0,0,0,0⟩:=grown_new (s:=s) (n:=⟨s.at_,w,0,0,0,0,0⟩)
    rw [this]
   ·unfold nodeAt
    show (((s.nodes++[_]).getD k _).picks,((s.nodes++[_]).getD k _).rates)=_
    rw [List.getD_eq_getElem?_getD,List.getElem?_eq_none (by simp;omega)];rfl
 unfold dt
 rw [hg]
 simp only [ht]
end
section
variable {P:Program}{w:World}{K:PySem.W.Frag}{mg:Str→Option Value}{base:Heap}{A:Adr}
def sp_Book_enter (A:Adr):Sp:=fun vs H Q _=>∃ (b:Addr) (B:Bd) (s:State) (w:Nat),vs=[.ref b,.int w]∧BookAt A H b B s∧Ends A H b B s (.enter w) Q
theorem sc_Book_enter:FnScope ["self","who"] ["self","who"] (defScope s_Book_enter):=⟨rfl,rfl,rfl,by decide +kernel,rfl,by decide +kernel,by decide +kernel⟩
theorem ok_Book_enter (T:Txt K mg A):FnOk P w K mg base CX0 4 A.f_Book_enter A.d_Book_enter ["self","who"] (sp_Book_enter A):=by
 refine (T.m_Book_enter.fn).ok sc_Book_enter (fun vs H Q E h=>?_) (fun cdv AA outer s H vs Q E hr h=>?_)
 ·obtain ⟨b,B,s,w,rfl,_⟩:=h
  rfl
 ·obtain ⟨b,B,s,w,rfl,R,k⟩:=h
  refine ⟨_,(pss_cons (ps_if (pt_not (pt_val (pe_call (ok_within T) (hr.mono (by decide)) (by rfl) T.u_within.mg T.u_within.kp T.u_within.bi .nil pass0 (pa_cons (pv 1) (pa_cons (pe_gint T.g_MOST_WHO) pa_nil)))))
    (pss_one (ps_ret (pe_lst (pa_cons (pe_gint T.g_OUT_OF_RANGE) pa_nil))))
    pss_nil)
   (pss_one (ps_ret (pe_lst (pa_cons (pe_meth (pe_fld (pv 0) rfl) T.cl_Ways T.m_Ways_enter.me (ok_Ways_enter T) (hr.mono (by decide)) T.m_Ways_enter.bi .nil pass0 (pa_cons (pv 1) pa_nil)) pa_nil))))),?_⟩
  refine ⟨_,rfl,w,65535,rfl,_,rfl,ite2 (fun c=>?_) (fun c=>?_)⟩
  ·have c:=nwT c
   exact k.same R (if_pos (by unfold isWho;rw [decide_eq_false_iff_not];omega))
  ·have c:=nwF c
   have c1:¬ isWho w=false:=by unfold isWho;rw [decide_eq_false_iff_not];omega
   have hw:w<65536:=by omega
   have W:=R.good.wf
   have e0:∀ x,child s s.at_ w=x→does s (.enter w)=match x with
    | some k=>if 64≤depthOf s s.at_ then (s,num (-6)) else ({ s with at_:=k },Sh28.nat k)
    | none=>if 64≤depthOf s s.at_∨4096≤s.nodes.length then (s,num (-6)) else ({ s with nodes:=s.nodes++[⟨s.at_,w,0,0,0,0,0⟩],at_:=s.nodes.length },Sh28.nat s.nodes.length):=fun x h=>by subst h;exact if_neg c1
   refine ⟨_,rfl,rd_fld T.fd_Book_ways R.at_.ob rfl (rd_meth R.at_.ways.ob (by decide +kernel) ⟨_,rfl,B.wy,B.nl,B.sd,B.as,s,numOf s,w,rfl,R.at_.ways,W,hw,fun hd=>?_,fun j H' hd hc W' e=>?_,fun H' hd hc hl e=>?_,fun a H' hd hc hl ha W' e=>?_⟩)⟩
   ·refine k.same R ?_
    cases hc:child s s.at_ w with
    | some j=>rw [e0 _ hc];exact if_pos hd
    | none=>rw [e0 _ hc];exact if_pos (.inl hd)
   ·have hd':does s (.enter w)=({ s with at_:=j },Sh28.nat j):=by rw [e0 _ hc];exact if_neg (by omega)
    obtain ⟨h1,h2⟩:=R.moveAt (child_some hc).2.1 W' e
    exact k.one (H1:=H') (B1:=B) (by rw [hd'];exact h1) h2 (by unfold ansOf;rw [hd'];rfl)
   ·have hd':does s (.enter w)=(s,num (-6)):=by rw [e0 _ hc];exact if_pos (.inr hl)
    exact k.one (H1:=H') (B1:=B) (by rw [hd'];exact R.kept e) (Out.kept e) (by unfold ansOf;rw [hd'];rfl)
   ·have hd':does s (.enter w)=({ s with nodes:=s.nodes++[⟨s.at_,w,0,0,0,0,0⟩],at_:=s.nodes.length },Sh28.nat s.nodes.length):=by rw [e0 _ hc];exact if_neg (by omega)
    obtain ⟨h1,h2⟩:=R.grow hl hd hw hc W' e
    exact k.one (H1:=H') (B1:={ B with as:=B.as++[a] }) (by rw [hd'];exact h1) h2 (by unfold ansOf;rw [hd'];rfl)
def sp_Book_leave (A:Adr):Sp:=fun vs H Q _=>∃ (b:Addr) (B:Bd) (s:State),vs=[.ref b]∧BookAt A H b B s∧Ends A H b B s .leave Q
theorem sc_Book_leave:FnScope ["self"] ["self"] (defScope s_Book_leave):=⟨rfl,rfl,rfl,by decide +kernel,rfl,by decide +kernel,by decide +kernel⟩
theorem ok_Book_leave (T:Txt K mg A):FnOk P w K mg base CX0 4 A.f_Book_leave A.d_Book_leave ["self"] (sp_Book_leave A):=by
 refine (T.m_Book_leave.fn).ok sc_Book_leave (fun vs H Q E h=>?_) (fun cdv AA outer s H vs Q E hr h=>?_)
 ·obtain ⟨b,B,s,rfl,_⟩:=h
  rfl
 ·obtain ⟨b,B,s,rfl,R,k⟩:=h
  refine ⟨_,(pss_one (ps_ret (pe_lst (pa_cons (pe_meth0 (pe_fld (pv 0) rfl) T.cl_Ways T.m_Ways_leave.me (ok_Ways_leave T) (hr.mono (by decide)) T.m_Ways_leave.bi .nil pass0) pa_nil)))),?_⟩
  have W:=R.good.wf
  refine ⟨_,rfl,rd_fld T.fd_Book_ways R.at_.ob rfl (rd_meth R.at_.ways.ob (by decide +kernel) ⟨B.wy,B.nl,B.sd,B.as,s,numOf s,rfl,R.at_.ways,W,fun hd=>?_,fun H' hd W' e=>?_⟩)⟩
  ·exact k.same R (if_pos hd)
  ·have hd':does s .leave=({ s with at_:=(nodeAt s s.at_).above },Sh28.nat (nodeAt s s.at_).above):=if_neg hd
   obtain ⟨h1,h2⟩:=R.moveAt (ab_lt W W.at_) W' fun x _=>e x
   exact k.one (H1:=H') (B1:=B) (by rw [hd'];exact h1) h2 (by unfold ansOf;rw [hd'];rfl)
def sp_Book_unwind (A:Adr):Sp:=fun vs H Q _=>∃ (b:Addr) (B:Bd) (s:State) (w:Nat),vs=[.ref b,.int w]∧BookAt A H b B s∧Ends A H b B s (.unwind w) Q
theorem sc_Book_unwind:FnScope ["self","depth"] ["self","depth"] (defScope s_Book_unwind):=⟨rfl,rfl,rfl,by decide +kernel,rfl,by decide +kernel,by decide +kernel⟩
theorem ok_Book_unwind (T:Txt K mg A):FnOk P w K mg base CX0 3 A.f_Book_unwind A.d_Book_unwind ["self","depth"] (sp_Book_unwind A):=by
 refine (T.m_Book_unwind.fn).ok sc_Book_unwind (fun vs H Q E h=>?_) (fun cdv AA outer s H vs Q E hr h=>?_)
 ·obtain ⟨b,B,s,w,rfl,_⟩:=h
  rfl
 ·obtain ⟨b,B,s,w,rfl,R,k⟩:=h
  refine ⟨_,(pss_cons (ps_if (pt_not (pt_val (pe_call (ok_within T) (hr.mono (by decide)) (by rfl) T.u_within.mg T.u_within.kp T.u_within.bi .nil pass0 (pa_cons (pv 1) (pa_cons (pe_gint T.g_MOST_DEPTH) pa_nil)))))
    (pss_one (ps_ret (pe_lst (pa_cons (pe_gint T.g_OUT_OF_RANGE) pa_nil))))
    pss_nil)
   (pss_one (ps_ret (pe_lst (pa_cons (pe_meth (pe_fld (pv 0) rfl) T.cl_Ways T.m_Ways_unwind.me (ok_Ways_unwind T) (hr.mono (by decide)) T.m_Ways_unwind.bi .nil pass0 (pa_cons (pv 1) pa_nil)) pa_nil))))),?_⟩
  refine ⟨_,rfl,w,64,rfl,_,rfl,ite2 (fun c=>?_) (fun c=>?_)⟩
  ·have c:=nwT c
   exact k.same R (if_pos (show 64<w by omega))
  ·have c:=nwF c
   have c1:¬ Sh28.DEEP<w:=by show ¬ 64<w;omega
   have W:=R.good.wf
   refine ⟨_,rfl,rd_fld T.fd_Book_ways R.at_.ob rfl (rd_meth R.at_.ways.ob (by decide +kernel) ⟨_,rfl,B.wy,B.nl,B.sd,B.as,s,numOf s,w,rfl,R.at_.ways,W,fun hd=>?_,fun H' hd W' e=>?_⟩)⟩
   ·exact k.same R ((if_neg c1).trans (if_pos hd))
   ·have hd':does s (.unwind w)=({ s with at_:=up s (depthOf s s.at_ - w) s.at_ },Sh28.nat (up s (depthOf s s.at_ - w) s.at_)):=(if_neg c1).trans (if_neg (by omega))
    obtain ⟨h1,h2⟩:=R.moveAt (up_lt W _ W.at_) W' fun x _=>e x
    exact k.one (H1:=H') (B1:=B) (by rw [hd'];exact h1) h2 (by unfold ansOf;rw [hd'];rfl)
def sp_Book_tick (A:Adr):Sp:=fun vs H Q _=>∃ (b:Addr) (B:Bd) (s:State) (n:Nat),vs=[.ref b,.int n]∧BookAt A H b B s∧Ends A H b B s (.tick n) Q
theorem sc_Book_tick:FnScope ["self","n"] ["self","n"] (defScope s_Book_tick):=⟨rfl,rfl,rfl,by decide +kernel,rfl,by decide +kernel,by decide +kernel⟩
theorem ok_Book_tick (T:Txt K mg A):FnOk P w K mg base CX0 2 A.f_Book_tick A.d_Book_tick ["self","n"] (sp_Book_tick A):=by
 refine (T.m_Book_tick.fn).ok sc_Book_tick (fun vs H Q E h=>?_) (fun cdv AA outer s H vs Q E hr h=>?_)
 ·obtain ⟨b,B,s,n,rfl,_⟩:=h
  rfl
 ·obtain ⟨b,B,s,n,rfl,R,k⟩:=h
  refine ⟨_,(pss_cons (ps_if (pt_not (pt_val (pe_call (ok_within T) (hr.mono (by decide)) (by rfl) T.u_within.mg T.u_within.kp T.u_within.bi .nil pass0 (pa_cons (pv 1) (pa_cons (pe_gint T.g_MOST_TICK) pa_nil)))))
    (pss_one (ps_ret (pe_lst (pa_cons (pe_gint T.g_OUT_OF_RANGE) pa_nil))))
    pss_nil)
   (pss_cons (ps_if (pt_cmpR op_ge (pe_op op_add (pe_fld (pv 0) rfl) (pv 1)) (pe_gint T.g_SUM_END) (nomark _))
    (pss_one (ps_ret (pe_lst (pa_cons (pe_gint T.g_TOO_GREAT) pa_nil))))
    pss_nil)
   (pss_cons (ps_fldaug (pv 0) (pv 1) in_add)
   (pss_one (ps_ret (pe_lst (pa_cons pe_int pa_nil))))))),?_⟩
  refine ⟨_,rfl,n,4294967295,rfl,_,rfl,ite2 (fun c=>?_) (fun c=>?_)⟩
  ·have c:=nwT c
   exact k.same R (if_pos (by unfold Sh28.isWord;rw [decide_eq_false_iff_not];omega))
  ·have c:=nwF c
   have c1:¬ Sh28.isWord n=false:=by unfold Sh28.isWord;rw [decide_eq_false_iff_not];omega
   refine ⟨_,rfl,rd_fld T.fd_Book_time R.at_.ob rfl ⟨_,rfl,_,_,rfl,rfl,_,_,rfl,rfl,_,rfl,ite2 (fun c2=>?_) (fun c2=>?_)⟩⟩
   ·have c2:(9223372036854775808:Int)≤(s.time:Int)+n:=of_decide_eq_true c2
    exact k.same R ((if_neg c1).trans (if_pos (by show 2 ^ 63≤s.time+n;omega)))
   ·have c2:¬ (9223372036854775808:Int)≤(s.time:Int)+n:=fun q=>c2 (decide_eq_true q)
    have hd':does s (.tick n)=({ s with time:=s.time+n },num 0):=(if_neg c1).trans (if_neg (by show ¬ 2 ^ 63≤s.time+n;omega))
    refine ⟨_,rfl,au_fld (m:=(s.time:Int)) (j:=(n:Int)) T.fd_Book_time R.at_.ob rfl rfl (fun _ r=>⟨_,rfl,r⟩) fun H1 h1 k1=>?_⟩
    obtain ⟨h2,o2⟩:=R.at_.ob' (D':={ dt s with t:=(s.time+n:Nat) }) h1 k1 rfl
    refine k.one (H1:=H1) (B1:=B) ?_ o2 (by unfold ansOf;rw [hd'];rfl)
    rw [hd']
    exact ⟨h2.eqv (D':=dt { s with time:=s.time+n }) rfl rfl (fun j _=>congrFun (numOf_like (s:=s) (t:={ s with time:=s.time+n }) rfl rfl).symm j) rfl,R.live,good_tick R.good (by omega)⟩
def sp_Book_count_live (A:Adr):Sp:=fun vs H Q _=>∃ (b:Addr) (B:Bd) (D:Dt) (k:Nat) (dp db:Int),vs=[.ref b,.int k,.int dp,.int db]∧At A H b B D∧Wf D.s∧k<D.s.nodes.length ∧
 ∀ H':Hp,At A H' b B { D with f:=addLive D.s k dp db D.f,lb:=D.lb+db,pb:=max D.pb (D.lb+db),pt:=if D.pb<D.lb+db then D.t else D.pt }→Out H H' B B→Q .non H'
theorem sc_Book_count_live:FnScope ["self","k","more_pieces","more_bytes"] ["self","k","more_pieces","more_bytes"] (defScope s_Book_count_live):=⟨rfl,rfl,rfl,by decide +kernel,rfl,by decide +kernel,by decide +kernel⟩
theorem ok_Book_count_live (T:Txt K mg A):FnOk P w K mg base CX0 3 A.f_Book_count_live A.d_Book_count_live ["self","k","more_pieces","more_bytes"] (sp_Book_count_live A):=by
 refine (T.m_Book_count_live.fn).ok sc_Book_count_live (fun vs H Q E h=>?_) (fun cdv AA outer s H vs Q E hr h=>?_)
 ·obtain ⟨b,B,D,k,dp,db,rfl,_⟩:=h
  rfl
 ·obtain ⟨b,B,D,k,dp,db,rfl,R,W,hk,kk⟩:=h
  refine ⟨_,(pss_cons (ps_expr (pe_meth (pe_fld (pv 0) rfl) T.cl_Ways T.m_Ways_count_live.me (ok_Ways_count_live T) (hr.mono (by decide)) T.m_Ways_count_live.bi .nil pass0 (pa_cons (pv 1) (pa_cons (pv 2) (pa_cons (pv 3) pa_nil)))))
   (pss_cons (ps_fldaug (pv 0) (pv 3) in_add)
   (pss_one (ps_if (pt_cmpR op_gt (pe_fld (pv 0) rfl) (pe_fld (pv 0) rfl) (nomark _))
    (pss_cons (ps_fld (pv 0) (pe_fld (pv 0) rfl) rfl)
    (pss_one (ps_fld (pv 0) (pe_fld (pv 0) rfl) rfl)))
    pss_nil)))),?_⟩
  refine ⟨_,rfl,rd_fld T.fd_Book_ways R.ob rfl (rd_meth R.ways.ob (by decide +kernel) ⟨_,rfl,_,rfl,_,rfl,B.wy,B.nl,B.sd,B.as,D.s,D.f,k,dp,db,rfl,R.ways,W,hk,fun H1 W1 e1=>?_⟩)⟩
  obtain ⟨R1,O1⟩:=R.ways' (f:=addLive D.s k dp db D.f) W1 fun x hx _ _ _ h=>e1 x hx h
  refine ⟨_,rfl,au_fld (m:=D.lb) (j:=db) T.fd_Book_live_bytes R1.ob rfl rfl (fun _ r=>⟨_,rfl,r⟩) fun H2 h2 k2=>?_⟩
  obtain ⟨R2,O2⟩:=R1.ob' (D':={ D with f:=addLive D.s k dp db D.f,lb:=D.lb+db }) h2 k2 rfl
  have O2:=O1.trans O2
  refine ⟨_,rfl,rd_fld T.fd_Book_live_bytes R2.ob rfl ⟨_,rfl,rd_fld T.fd_Book_peak_bytes R2.ob rfl ⟨_,_,rfl,rfl,_,rfl,ite2 (fun c=>?_) (fun c=>?_)⟩⟩⟩
  ·have c:D.pb<D.lb+db:=of_decide_eq_true c
   refine ⟨_,rfl,rd_fld T.fd_Book_live_bytes R2.ob rfl ⟨_,rfl,wr_fld T.fd_Book_peak_bytes R2.ob rfl fun H3 h3 k3=>?_⟩⟩
   obtain ⟨R3,O3⟩:=R2.ob' (D':={ D with f:=addLive D.s k dp db D.f,lb:=D.lb+db,pb:=D.lb+db }) h3 k3 rfl
   refine ⟨_,rfl,rd_fld T.fd_Book_time R3.ob rfl ⟨_,rfl,wr_fld T.fd_Book_peak_time R3.ob rfl fun H4 h4 k4=>?_⟩⟩
   obtain ⟨R4,O4⟩:=R3.ob' (D':={ D with f:=addLive D.s k dp db D.f,lb:=D.lb+db,pb:=D.lb+db,pt:=D.t }) h4 k4 rfl
   refine kk H4 ?_ (O2.trans (O3.trans O4))
   rw [if_pos c,show max D.pb (D.lb+db)=D.lb+db from by omega]
   exact R4
  ·have c:¬ D.pb<D.lb+db:=fun q=>c (decide_eq_true q)
   refine kk H2 ?_ O2
   rw [if_neg c,show max D.pb (D.lb+db)=D.pb from by omega]
   exact R2
end
theorem Dt.ext' {D D':Dt} (h1:D.t=D'.t) (h2:D.lb=D'.lb) (h3:D.pb=D'.pb) (h4:D.pt=D'.pt) (h5:D.mp=D'.mp) (h6:D.mb=D'.mb) (h7:D.wp=D'.wp) (h8:D.ra=D'.ra) (h9:D.rb=D'.rb) (h10:D.rc=D'.rc) (h11:D.rd=D'.rd)
  (h12:D.rate=D'.rate) (h13:D.off=D'.off) (h14:D.tot=D'.tot) (h15:D.g=D'.g) (h16:D.marks=D'.marks):{ D with s:=D'.s,f:=D'.f }=D':=by
 cases D;cases D'
 simp only at h1 h2 h3 h4 h5 h6 h7 h8 h9 h10 h11 h12 h13 h14 h15 h16
 subst h1 h2 h3 h4 h5 h6 h7 h8 h9 h10 h11 h12 h13 h14 h15 h16
 rfl
end Bk
namespace Bk
open PySem L2
open Sh28 (State nodeAt depthOf child up under wayUp pathOf findWay begun Piece does num isWho hits pieceAt madePiece gone movedPiece isPlace isWord sumOf classOf)
theorem iteT {b:Bool}{X Y:Prop} (h:b=true) (x:X):if b=true then X else Y:=by rw [if_pos h];exact x
theorem iteF {b:Bool}{X Y:Prop} (h:¬ b=true) (y:Y):if b=true then X else Y:=by rw [if_neg h];exact y
theorem placeF {p:Nat} (h:(1099511627775:Int)<p):isPlace p=false:=by unfold isPlace;rw [decide_eq_false_iff_not];omega
theorem placeT {p:Nat} (h:(p:Int)≤1099511627775):isPlace p=true:=by unfold isPlace;rw [decide_eq_true_eq];omega
theorem wordF {p:Nat} (h:(4294967295:Int)<p):isWord p=false:=by unfold isWord;rw [decide_eq_false_iff_not];omega
theorem wordT {p:Nat} (h:(p:Int)≤4294967295):isWord p=true:=by unfold isWord;rw [decide_eq_true_eq];omega
theorem any_live {A:Adr}{H:Hp}{b:Addr}{B:Bd}{s:State} (R:BookAt A H b B s) (q:Piece→Bool):(B.L.map (·.2)).any q=s.live.any q:=R.live.any_eq
theorem len_live {A:Adr}{H:Hp}{b:Addr}{B:Bd}{s:State} (R:BookAt A H b B s):B.L.length=s.live.length:=by rw [← R.live.length_eq,List.length_map]
section
variable {P:Program}{w:World}{K:PySem.W.Frag}{mg:Str→Option Value}{base:Heap}{A:Adr}
def sp_Book_made (A:Adr):Sp:=fun vs H Q _=>∃ (b:Addr) (B:Bd) (s:State) (p z:Nat),vs=[.ref b,.int p,.int z]∧BookAt A H b B s∧Ends A H b B s (.made p z) Q
theorem sc_Book_made:FnScope ["self","place","size","piece"] ["self","place","size"] (defScope s_Book_made):=⟨rfl,rfl,rfl,by decide +kernel,rfl,by decide +kernel,by decide +kernel⟩
theorem ok_Book_made (T:Txt K mg A):FnOk P w K mg base CX0 4 A.f_Book_made A.d_Book_made ["self","place","size"] (sp_Book_made A):=by
 refine (T.m_Book_made.fn).ok sc_Book_made (fun vs H Q E h=>?_) (fun cdv AA outer s H vs Q E hr h=>?_)
 ·obtain ⟨b,B,s,p,z,rfl,_⟩:=h
  rfl
 ·obtain ⟨b,B,s,p,z,rfl,R,k⟩:=h
  refine ⟨_,(pss_cons (ps_if (pw_or (pt_not (pt_val (pe_call (ok_within T) (hr.mono (by decide)) (by rfl) T.u_within.mg T.u_within.kp T.u_within.bi .nil pass0 (pa_cons (pv 1) (pa_cons (pe_gint T.g_MOST_PLACE) pa_nil))))) (pw_or1 (pt_not (pt_val (pe_call (ok_within T) (hr.mono (by decide)) (by rfl) T.u_within.mg T.u_within.kp T.u_within.bi .nil pass0 (pa_cons (pv 2) (pa_cons (pe_gint T.g_MOST_SIZE) pa_nil))))))).pt
    (pss_one (ps_ret (pe_lst (pa_cons (pe_gint T.g_OUT_OF_RANGE) pa_nil))))
    pss_nil)
   (pss_cons (ps_if (pt_not (pt_val (pe_meth (pe_fld (pv 0) rfl) T.cl_Pieces T.m_Pieces_is_free.me (ok_Pieces_is_free T) (hr.mono (by decide)) T.m_Pieces_is_free.bi .nil pass0 (pa_cons (pv 1) (pa_cons (pv 2) (pa_cons (pe_gint T.g_NOWHERE) pa_nil))))))
    (pss_one (ps_ret (pe_lst (pa_cons (pe_gint T.g_NOT_FREE) pa_nil))))
    pss_nil)
   (pss_cons (ps_if (pt_cmpR op_eq (pe_meth0 (pe_fld (pv 0) rfl) T.cl_Pieces T.m_Pieces_how_many.me (ok_Pieces_how_many T) (hr.mono (by decide)) T.m_Pieces_how_many.bi .nil pass0) (pe_gint T.g_MOST_PIECES) (nomark _))
    (pss_one (ps_ret (pe_lst (pa_cons (pe_gint T.g_FULL) pa_nil))))
    pss_nil)
   (pss_cons (ps_if (pt_cmpR op_ge (pe_op op_add (pe_fld (pv 0) rfl) (pv 2)) (pe_gint T.g_SUM_END) (nomark _))
    (pss_one (ps_ret (pe_lst (pa_cons (pe_gint T.g_TOO_GREAT) pa_nil))))
    pss_nil)
   (pss_cons (ps_set (i:=3) sc_Book_made.nd rfl (Or.inl rfl) (pe_make T.mk_Piece (ok_Piece___init__ T) (hr.mono (by decide)) (by rfl) T.mg_Piece T.m_Piece___init__.bi .nil pass0 (pa_cons (pe_fld (pv 0) rfl) (pa_cons (pv 1) (pa_cons (pv 2) (pa_cons (pe_fld (pe_fld (pv 0) rfl) rfl) (pa_cons (pe_fld (pv 0) rfl) pa_nil)))))))
   (pss_cons (ps_expr (pe_meth (pe_fld (pv 0) rfl) T.cl_Pieces T.m_Pieces_put.me (ok_Pieces_put T) (hr.mono (by decide)) T.m_Pieces_put.bi .nil pass0 (pa_cons (pv 3) pa_nil)))
   (pss_cons (ps_fldaug (pv 0) pe_int in_add)
   (pss_cons (ps_fldaug (pv 0) (pv 2) in_add)
   (pss_cons (ps_expr (pe_meth (pe_fld (pv 0) rfl) T.cl_Ways T.m_Ways_count_made.me (ok_Ways_count_made T) (hr.mono (by decide)) T.m_Ways_count_made.bi .nil pass0 (pa_cons (pe_fld (pv 3) rfl) (pa_cons (pv 2) pa_nil))))
   (pss_cons (ps_expr (pe_meth (pe_fld (pv 0) rfl) T.cl_Rows T.m_Rows_note_made.me (ok_Rows_note_made T) (hr.mono (by decide)) T.m_Rows_note_made.bi .nil pass0 (pa_cons (pv 2) pa_nil)))
   (pss_cons (ps_expr (pe_meth (pe_fld (pv 0) rfl) T.cl_Picks T.m_Picks_note_made.me (ok_Picks_note_made T) (hr.mono (by decide)) T.m_Picks_note_made.bi .nil pass0 (pa_cons (pe_fld (pv 3) rfl) (pa_cons (pv 2) pa_nil))))
   (pss_cons (ps_expr (pe_meth (pv 0) T.cl_Book T.m_Book_count_live.me (ok_Book_count_live T) (hr.mono (by decide)) T.m_Book_count_live.bi .nil pass0 (pa_cons (pe_fld (pv 3) rfl) (pa_cons pe_int (pa_cons (pv 2) pa_nil)))))
   (pss_one (ps_ret (pe_lst (pa_cons (pe_fld (pv 3) rfl) pa_nil)))))))))))))))),?_⟩
  refine ⟨_,rfl,p,1099511627775,rfl,_,rfl,ite2 (fun c=>iteT (by first | exact c | rfl) ?_) (fun c=>?_)⟩
  ·exact k.same R (if_pos (by rw [placeF (nwT c)];rfl))
  ·have hp:=placeT (nwF c)
   refine ⟨_,rfl,z,4294967295,rfl,_,rfl,ite2 (fun c=>?_) (fun c=>?_)⟩
   ·exact k.same R (if_pos (by rw [wordF (nwT c),Bool.and_false]))
   have hz0:=nwF c
   have hz:=wordT hz0
   have hz1:z<2 ^ 32:=by omega
   have c1:¬ (isPlace p && isWord z)=false:=by rw [hp,hz];decide
   have W:=R.good.wf
   have hany:((B.L.map (·.2)).any fun q=>decide ((q.place:Int)≠-1) && hits p z q)=s.live.any (hits p z):=by
    rw [any_live R]
    exact congrArg s.live.any (funext fun q=>by rw [decide_eq_true (by omega),Bool.true_and])
   refine ⟨_,rfl,rd_fld T.fd_Book_pieces R.at_.ob rfl (rd_meth R.at_.pcs.ob (by decide +kernel) ⟨_,rfl,_,rfl,B.pc,B.pd,B.pl,B.L,B.xs,p,z,-1,rfl,R.at_.pcs,_,rfl,ite2 (fun c=>?_) (fun c=>?_)⟩)⟩
   ·rw [hany,Bool.not_not] at c
    exact k.same R ((if_neg c1).trans (if_pos c))
   rw [hany,Bool.not_not] at c
   have c2:=c
   refine ⟨_,rfl,rd_fld T.fd_Book_pieces R.at_.ob rfl (rd_meth R.at_.pcs.ob (by decide +kernel) ⟨B.pc,B.pd,B.pl,B.L,B.xs,rfl,R.at_.pcs,rfl,_,rfl,?_⟩)⟩
   rw [dec_int]
   refine ite2 (fun c=>?_) (fun c=>?_)
   ·have c:(B.L.length:Int)=65536:=beq_iff_eq.mp c
    exact k.same R ((if_neg c1).trans ((if_neg c2).trans (if_pos (by show 65536≤_;rw [← len_live R];omega))))
   have c:¬ (B.L.length:Int)=65536:=fun q=>c (beq_iff_eq.mpr q)
   have hfew:=R.good.few
   have hll:=len_live R
   have c3:¬ Sh28.LIVE≤s.live.length:=by show ¬ 65536≤_;omega
   refine ⟨_,rfl,rd_fld T.fd_Book_made_bytes R.at_.ob rfl ⟨_,rfl,_,_,rfl,rfl,_,_,rfl,rfl,_,rfl,ite2 (fun c4=>?_) (fun c4=>?_)⟩⟩
   ·have c4:(9223372036854775808:Int)≤(s.bytes:Int)+z:=of_decide_eq_true c4
    exact k.same R ((if_neg c1).trans ((if_neg c2).trans ((if_neg c3).trans (if_pos (by show 2 ^ 63≤s.bytes+z;omega)))))
   have c4:¬ (9223372036854775808:Int)≤(s.bytes:Int)+z:=fun q=>c4 (decide_eq_true q)
   have hd:does s (.made p z)=(madePiece s p z,Sh28.nat s.made):=(if_neg c1).trans ((if_neg c2).trans ((if_neg c3).trans (if_neg (by show ¬ 2 ^ 63≤s.bytes+z;omega))))
   have hbz:s.bytes+z<2 ^ 63:=by omega
   have hf:s.live.any (hits p z)=false:=Bool.eq_false_iff.mpr c2
   refine ⟨_,rfl,rd_fld T.fd_Book_made_pieces R.at_.ob rfl ⟨_,rfl,_,rfl,_,rfl,rd_fld T.fd_Book_ways R.at_.ob rfl (rd_fld T.fd_Ways_here R.at_.ways.ob rfl ⟨_,rfl,rd_fld T.fd_Book_time R.at_.ob rfl ?_⟩)⟩⟩
   intro a da na nda nea
   refine ⟨a,da,_,_,_,_,_,rfl,upd_same,fun H1 h1 k1=>?_⟩
   have e1:∀ x,H x≠none→H1 x=H x:=fun x hx=>by
    have n1:x≠a:=fun e=>hx (by rw [e];exact na)
    have n2:x≠da:=fun e=>hx (by rw [e];exact nda)
    rw [k1 x n1,upd_ne n1,upd_ne n2]
   have R1:=R.at_.kept e1
   have O1:Out H H1 B B:=Out.kept e1
   refine ⟨rfl,?_⟩
   have hq:Ob H1 a A.c_Piece K_Piece (pieceV ⟨p,z,s.at_,s.time,s.made⟩):=h1
   have hnot:a∉B.L.map (·.1):=fun h=>by
    obtain ⟨x,hx,rfl⟩:=List.mem_map.mp h
    exact ob_some (R.at_.pcs.obs x hx) na
   have hap:∀ x∈B.L.map (·.2),Apart ⟨p,z,s.at_,s.time,s.made⟩ x∧s.made≠x.number:=fun x hx=>by
    have hx:=R.live.mem_iff.mp hx
    exact ⟨(apart_iff _ _).mpr (Bool.eq_false_iff.mpr (List.any_eq_false.mp hf x hx)),Nat.ne_of_gt (R.good.made x hx)⟩
   refine ⟨_,rfl,rd_fld T.fd_Book_pieces R1.ob rfl (rd_meth R1.pcs.ob (by decide +kernel) ⟨_,rfl,B.pc,B.pd,B.pl,B.L,B.xs,a,⟨p,z,s.at_,s.time,s.made⟩,rfl,R1.pcs,hq,hnot,hap,by omega,fun xs' H2 P2 e2=>?_⟩)⟩
   obtain ⟨R2,O2⟩:=R1.pcs' P2 fun x _ n1 n2 _=>e2 x n1 n2
   have O2:=O1.trans O2
   refine ⟨_,rfl,au_fld (m:=(s.made:Int)) (j:=1) T.fd_Book_made_pieces R2.ob rfl rfl (fun _ r=>r) fun H3 h3 k3=>?_⟩
   obtain ⟨R3,O3⟩:=R2.ob' (D':={ dt s with mp:=(s.made:Int)+1 }) h3 k3 rfl
   have O3:=O2.trans O3
   refine ⟨_,rfl,au_fld (m:=(s.bytes:Int)) (j:=(z:Int)) T.fd_Book_made_bytes R3.ob rfl rfl (fun _ r=>⟨_,rfl,r⟩) fun H4 h4 k4=>?_⟩
   obtain ⟨R4,O4⟩:=R3.ob' (D':={ dt s with mp:=(s.made:Int)+1,mb:=(s.bytes:Int)+z }) h4 k4 rfl
   have O4:=O3.trans O4
   have q4:=R4.pcs.obs (a,⟨p,z,s.at_,s.time,s.made⟩) List.mem_cons_self
   refine ⟨_,rfl,rd_fld T.fd_Book_ways R4.ob rfl (rd_meth R4.ways.ob (by decide +kernel) ⟨_,rfl,rd_fld T.fd_Piece_owner q4 rfl ⟨_,rfl,B.wy,B.nl,B.sd,B.as,s,numOf s,s.at_,z,rfl,R4.ways,W,W.at_,fun H5 W5 e5=>?_⟩⟩)⟩
   obtain ⟨R5,O5⟩:=R4.ways' (f:=addMade s s.at_ z (numOf s)) W5 fun x hx _ _ _ h=>e5 x hx h
   have O5:=O4.trans O5
   refine ⟨_,rfl,rd_fld T.fd_Book_rows R5.ob rfl (rd_meth R5.rows.ob (by decide +kernel) ⟨_,rfl,B.rw,B.l1,B.l2,B.l3,B.l4,_,_,_,_,z,rfl,hz1,R5.rows,fun H6 W6 e6=>?_⟩)⟩
   obtain ⟨R6,O6⟩:=R5.rows' W6 fun x n1 n2 _ _=>e6 x n1 n2
   have O6:=O5.trans O6
   have q6:=R6.pcs.obs (a,⟨p,z,s.at_,s.time,s.made⟩) List.mem_cons_self
   have hat:s.at_<4096:=Nat.lt_of_lt_of_le W.at_ W.few
   refine ⟨_,rfl,rd_fld T.fd_Book_picks R6.ob rfl (rd_meth R6.picks.ob (by decide +kernel) ⟨_,rfl,rd_fld T.fd_Piece_owner q6 rfl ⟨_,rfl,B.pk,B.kd,s.rate,s.off,_,s.at_,z,_,rfl,R6.picks,R.good.rate,hat,fun H7 m off' hm hoff W7 e7=>?_⟩⟩)⟩
   obtain ⟨R7,O7⟩:=R6.picks' W7 e7
   have O7:=O6.trans O7
   have q7:=R7.pcs.obs (a,⟨p,z,s.at_,s.time,s.made⟩) List.mem_cons_self
   refine ⟨_,rfl,rd_meth R7.ob (by decide +kernel) ⟨_,rfl,rd_fld T.fd_Piece_owner q7 rfl ⟨_,rfl,b,_,_,s.at_,1,z,rfl,R7,W,W.at_,fun H8 R8 O8=>?_⟩⟩⟩
   have O8:=O7.trans O8
   have q8:=R8.pcs.obs (a,⟨p,z,s.at_,s.time,s.made⟩) List.mem_cons_self
   refine ⟨_,rfl,rd_fld T.fd_Piece_number q8 rfl (k.one (v:=(s.made:Int)) (H1:=H8) (B1:={ B with L:=(a,⟨p,z,s.at_,s.time,s.made⟩)::B.L,xs:=xs' }) ?_ O8 (by unfold ansOf;rw [hd];rfl))⟩
   rw [hd]
   have hG:=good_made R.good hz1 hf (by omega) hbz
   have hP:=made_perm (s:=s) p z
   have hsum:=sumOf_perm hP
   rw [sumOf_cons] at hsum
   refine ⟨R8.eqv (D':=dt (madePiece s p z)) (made_shape p z) rfl (fun j _=>num_made R.good j) (Dt.ext' rfl ?_ ?_ ?_ rfl rfl rfl ?_ ?_ rfl rfl rfl ?_ ?_ ?_ rfl),((R.live.cons _).trans hP.symm),hG⟩
   ·show (sumOf s.live:Int)+z=(sumOf (madePiece s p z).live:Nat)
    rw [hsum]
    show _=((z+sumOf s.live:Nat):Int)
    omega
   ·show max (s.peak:Int) ((sumOf s.live:Nat)+z)=((max s.peak (sumOf (made0 s p z).live):Nat):Int)
    have h0:sumOf (made0 s p z).live=z+sumOf s.live:=hsum
    rw [h0]
    omega
   ·show (if (s.peak:Int)<(sumOf s.live:Nat)+z then (s.time:Int) else s.peakAt)=((if s.peak<sumOf (made0 s p z).live then s.time else s.peakAt:Nat):Int)
    have h0:sumOf (made0 s p z).live=z+sumOf s.live:=hsum
    rw [h0]
    by_cases hh:s.peak<z+sumOf s.live
    ·rw [if_pos hh,if_pos (by omega)]
    ·rw [if_neg hh,if_neg (by omega)]
   ·exact (ints_bump s.sizes (classOf z)).symm
   ·show bumpI (liveRow s.live) (classOf z) 1=liveRow (madePiece s p z).live
    rw [liveRow_perm hP,liveRow_cons]
   ·show off'=if s.rate=0 then 0 else (s.off+z) % s.rate
    rw [hoff]
    by_cases hh:s.rate=0
    ·rw [if_pos hh,if_pos hh,R.good.off hh]
    ·rw [if_neg hh,if_neg hh]
   ·show _+m=_
    rw [hm]
    exact (tot_made R.good p z).symm
   ·funext j
    show (if j=s.at_ then _ else _)=((nodeAt (madePiece s p z) j).picks,(nodeAt (madePiece s p z) j).rates)
    rw [made_node W,hm]
    by_cases e:j=s.at_
    ·subst e
     rw [if_pos rfl,if_pos rfl];rfl
    ·rw [if_neg e,if_neg e];rfl
end
end Bk
namespace Bk
open PySem L2
open Sh28 (State nodeAt depthOf child up under wayUp pathOf findWay begun Piece does num isWho hits pieceAt madePiece gone movedPiece isPlace isWord sumOf classOf ageClass)
section
variable {A:Adr}{H H':Hp}{b:Addr}{B:Bd}{s:State}
theorem has_live (R:BookAt A H b B s) (p:Nat):(B.L.any fun x=>decide ((x.2.place:Int)=(p:Int)))=(pieceAt s p).isSome:=by
 have h1:(B.L.any fun x=>decide ((x.2.place:Int)=(p:Int)))=(B.L.map (·.2)).any fun q=>q.place == p:=by
  rw [List.any_map]
  refine congrArg B.L.any (funext fun x=>?_)
  show _=(x.2.place == p)
  rw [Bool.eq_iff_iff,decide_eq_true_eq,beq_iff_eq]
  omega
 rw [h1,any_live R]
 exact List.isSome_find?.symm
theorem piece_of (R:BookAt A H b B s) {p:Nat}{q:Piece} (h:pieceAt s p=some q):q∈s.live∧q.place=p∧∃ a,(a,q)∈B.L:=by
 have h1:=List.mem_of_find?_eq_some h
 have h2:=List.find?_some h
 obtain ⟨x,hx,e⟩:=List.mem_map.mp (R.live.mem_iff.mpr h1)
 exact ⟨h1,beq_iff_eq.mp h2,x.1,by rw [← e];exact hx⟩
theorem rest_live (R:BookAt A H b B s) (q:Piece):((B.L.filter fun x=>x.2.number != q.number).map (·.2)).Perm (s.live.filter fun x=>x.number != q.number):=by
 have:=R.live.filter (fun x=>x.number != q.number)
 rw [List.filter_map] at this
 exact this
end
section
variable {P:Program}{w:World}{K:PySem.W.Frag}{mg:Str→Option Value}{base:Heap}{A:Adr}
def sp_Book_went (A:Adr):Sp:=fun vs H Q _=>∃ (b:Addr) (B:Bd) (s:State) (p:Nat),vs=[.ref b,.int p]∧BookAt A H b B s∧Ends A H b B s (.went p) Q
theorem sc_Book_went:FnScope ["self","place","piece","age"] ["self","place"] (defScope s_Book_went):=⟨rfl,rfl,rfl,by decide +kernel,rfl,by decide +kernel,by decide +kernel⟩
theorem ok_Book_went (T:Txt K mg A):FnOk P w K mg base CX0 4 A.f_Book_went A.d_Book_went ["self","place"] (sp_Book_went A):=by
 refine (T.m_Book_went.fn).ok sc_Book_went (fun vs H Q E h=>?_) (fun cdv AA outer s H vs Q E hr h=>?_)
 ·obtain ⟨b,B,s,p,rfl,_⟩:=h
  rfl
 ·obtain ⟨b,B,s,p,rfl,R,k⟩:=h
  refine ⟨_,(pss_cons (ps_if (pt_not (pt_val (pe_call (ok_within T) (hr.mono (by decide)) (by rfl) T.u_within.mg T.u_within.kp T.u_within.bi .nil pass0 (pa_cons (pv 1) (pa_cons (pe_gint T.g_MOST_PLACE) pa_nil)))))
    (pss_one (ps_ret (pe_lst (pa_cons (pe_gint T.g_OUT_OF_RANGE) pa_nil))))
    pss_nil)
   (pss_cons (ps_if (pt_not (pt_val (pe_meth (pe_fld (pv 0) rfl) T.cl_Pieces T.m_Pieces_has.me (ok_Pieces_has T) (hr.mono (by decide)) T.m_Pieces_has.bi .nil pass0 (pa_cons (pv 1) pa_nil))))
    (pss_one (ps_ret (pe_lst (pa_cons (pe_gint T.g_NOT_THERE) pa_nil))))
    pss_nil)
   (pss_cons (ps_set (i:=2) sc_Book_went.nd rfl (Or.inl rfl) (pe_meth (pe_fld (pv 0) rfl) T.cl_Pieces T.m_Pieces_take.me (ok_Pieces_take T) (hr.mono (by decide)) T.m_Pieces_take.bi .nil pass0 (pa_cons (pv 1) pa_nil)))
   (pss_cons (ps_set (i:=3) sc_Book_went.nd rfl (Or.inl rfl) (pe_op op_sub (pe_fld (pv 0) rfl) (pe_fld (pv 2) rfl)))
   (pss_cons (ps_fldaug (pv 0) pe_int in_add)
   (pss_cons (ps_expr (pe_meth (pe_fld (pv 0) rfl) T.cl_Rows T.m_Rows_note_went.me (ok_Rows_note_went T) (hr.mono (by decide)) T.m_Rows_note_went.bi .nil pass0 (pa_cons (pe_fld (pv 2) rfl) (pa_cons (pv 3) pa_nil))))
   (pss_cons (ps_expr (pe_meth (pv 0) T.cl_Book T.m_Book_count_live.me (ok_Book_count_live T) (hr.mono (by decide)) T.m_Book_count_live.bi .nil pass0 (pa_cons (pe_fld (pv 2) rfl) (pa_cons (pe_un un_neg pe_int) (pa_cons (pe_un un_neg (pe_fld (pv 2) rfl)) pa_nil)))))
   (pss_one (ps_ret (pe_lst (pa_cons (pv 3) pa_nil))))))))))),?_⟩
  refine ⟨_,rfl,p,1099511627775,rfl,_,rfl,ite2 (fun c=>?_) (fun c=>?_)⟩
  ·exact k.same R (if_pos (placeF (nwT c)))
  have c1:¬ isPlace p=false:=by rw [placeT (nwF c)];decide
  have W:=R.good.wf
  refine ⟨_,rfl,rd_fld T.fd_Book_pieces R.at_.ob rfl (rd_meth R.at_.pcs.ob (by decide +kernel) ⟨_,rfl,B.pc,B.pd,B.pl,B.L,B.xs,p,rfl,R.at_.pcs,_,rfl,?_⟩)⟩
  rw [has_live R]
  have e0:∀ x,pieceAt s p=x→does s (.went p)=match x with
    | none=>(s,num (-4))
    | some q=>(gone s q,Sh28.nat (s.time - q.born)):=fun x h=>by subst h;exact if_neg c1
  cases hq:pieceAt s p with
  | none=>exact iteT rfl (k.same R (e0 _ hq))
  | some q =>
  refine iteF (by simp) ?_
  have hd:does s (.went p)=(gone s q,Sh28.nat (s.time - q.born)):=e0 _ hq
  obtain ⟨hql,hqp,a,haL⟩:=piece_of R hq
  have hoa:=R.at_.pcs.obs (a,q) haL
  obtain ⟨nad,nal⟩:=R.at_.pcs.pne hoa
  refine ⟨_,rfl,rd_fld T.fd_Book_pieces R.at_.ob rfl (rd_meth R.at_.pcs.ob (by decide +kernel) ⟨_,rfl,B.pc,B.pd,B.pl,B.L,B.xs,a,q,by rw [hqp];rfl,R.at_.pcs,haL,fun xs' H1 P1 e1=>?_⟩)⟩
  obtain ⟨R1,O1⟩:=R.at_.pcs' P1 fun x _ n1 n2 _=>e1 x n1 n2
  have q1:Ob H1 a A.c_Piece K_Piece (pieceV q):=hoa.same (e1 a nad nal)
  have hbn:=R.good.born q hql
  have eage:(s.time:Int) - (q.born:Int)=((s.time - q.born:Nat):Int):=by omega
  refine ⟨_,rfl,rd_fld T.fd_Book_time R1.ob rfl ⟨_,rfl,rd_fld T.fd_Piece_born q1 rfl ⟨_,_,rfl,rfl,?_⟩⟩⟩
  refine ⟨_,rfl,au_fld (m:=(s.went:Int)) (j:=1) T.fd_Book_went_pieces R1.ob rfl rfl (fun _ r=>r) fun H2 h2 k2=>?_⟩
  obtain ⟨R2,O2⟩:=R1.ob' (D':={ dt s with wp:=(s.went:Int)+1 }) h2 k2 rfl
  have O2:=O1.trans O2
  have q2:Ob H2 a A.c_Piece K_Piece (pieceV q):=q1.same (k2 a (tg_ne (tg_piece q1) (bk_tg R1)))
  have hz:=R.good.size q hql
  have htime:=R.good.time
  refine ⟨_,rfl,rd_fld T.fd_Book_rows R2.ob rfl (rd_meth R2.rows.ob (by decide +kernel) ⟨_,rfl,rd_fld T.fd_Piece_size q2 rfl ⟨_,rfl,B.rw,B.l1,B.l2,B.l3,B.l4,_,_,_,_,q.size,s.time - q.born,by rw [← eage];rfl,hz,by omega,R2.rows,fun H3 W3 e3=>?_⟩⟩)⟩
  obtain ⟨R3,O3⟩:=R2.rows' W3 fun x _ n2 n3 n4=>e3 x n2 n3 n4
  have O3:=O2.trans O3
  have q3:Ob H3 a A.c_Piece K_Piece (pieceV q):=q2.same (e3 a (tg_ne (tg_piece q2) (tg_ls R2.rows.h2)) (tg_ne (tg_piece q2) (tg_ls R2.rows.h3)) (tg_ne (tg_piece q2) (tg_ls R2.rows.h4)))
  refine ⟨_,rfl,rd_meth R3.ob (by decide +kernel) ⟨_,rfl,rd_fld T.fd_Piece_owner q3 rfl ⟨_,rfl,_,rfl,rd_fld T.fd_Piece_size q3 rfl ⟨_,rfl,b,_,_,q.node,-1,-(q.size:Int),rfl,R3,W,R.good.node q hql,fun H4 R4 O4=>?_⟩⟩⟩⟩
  have O4:=O3.trans O4
  refine ⟨_,rfl,k.one (v:=(s.time:Int) - q.born) (H1:=H4) (B1:={ B with L:=B.L.filter fun x=>x.2.number != q.number,xs:=xs' }) ?_ O4 (by unfold ansOf;rw [hd,eage];rfl)⟩
  rw [hd]
  have hP:=perm_rest R.good.num hql
  have hsum:=sumOf_perm hP
  rw [sumOf_cons] at hsum
  have hpk:=R.good.peak
  have hag:=ages_set s.ages (ageClass (s.time - q.born)) q.size
  refine ⟨R4.eqv (D':=dt (gone s q)) rfl rfl (fun j hj=>num_gone R.good hql hj) (Dt.ext' rfl ?_ ?_ ?_ rfl rfl rfl rfl ?_ hag.1.symm hag.2.symm rfl rfl rfl rfl rfl),rest_live R q,good_gone R.good hql⟩
  ·show (sumOf s.live:Int) + -(q.size:Int)=(sumOf (s.live.filter fun x=>x.number != q.number):Nat)
   omega
  ·show max (s.peak:Int) ((sumOf s.live:Nat) + -(q.size:Int))=(s.peak:Int)
   omega
  ·exact if_neg (by show ¬ (s.peak:Int)<(sumOf s.live:Nat) + -(q.size:Int);omega)
  ·show bumpI (liveRow s.live) (classOf q.size) (-1)=liveRow (s.live.filter fun x=>x.number != q.number)
   rw [liveRow_perm hP,liveRow_cons,bumpI_off]
theorem free_live {H:Hp}{b:Addr}{B:Bd}{s:State} (R:BookAt A H b B s) {p t z:Nat}{q:Piece} (hq:q∈s.live) (hqp:q.place=p):((B.L.map (·.2)).any fun r=>decide ((r.place:Int)≠(p:Int)) && hits t z r)=s.live.any fun r=>r.number != q.number && hits t z r:=by
 rw [any_live R]
 have key:∀ r∈s.live,(decide ((r.place:Int)≠(p:Int)) && hits t z r)=(r.number != q.number && hits t z r):=fun r hr=>by
  congr 1
  rw [Bool.eq_iff_iff,decide_eq_true_eq,bne_iff_ne]
  constructor
  ·intro h e
   have:=pw_inj (f:=Piece.number) R.good.num hr hq e
   rw [this,hqp] at h
   exact h rfl
  ·intro h e
   have hrp:r.place=q.place:=by omega
   refine h ?_
   have hne:q.place≠q.place∨r=q:=by
    by_cases e2:r=q
    ·exact .inr e2
    ·exact absurd (pw_inj (f:=Piece.place) (R.good.dis.imp fun {a c} hac=>by unfold Apart at hac;omega) hr hq hrp) e2
   rcases hne with h0 | h0
   ·exact absurd rfl h0
   ·rw [h0]
 rw [Bool.eq_iff_iff,List.any_eq_true,List.any_eq_true]
 constructor
 ·rintro ⟨r,hr,h⟩
  exact ⟨r,hr,by rw [← key r hr];exact h⟩
 ·rintro ⟨r,hr,h⟩
  exact ⟨r,hr,by rw [key r hr];exact h⟩
def sp_Book_moved (A:Adr):Sp:=fun vs H Q _=>∃ (b:Addr) (B:Bd) (s:State) (p t z:Nat),vs=[.ref b,.int p,.int t,.int z]∧BookAt A H b B s∧Ends A H b B s (.moved p t z) Q
theorem sc_Book_moved:FnScope ["self","place","new_place","new_size","piece","more_bytes"] ["self","place","new_place","new_size"] (defScope s_Book_moved):=⟨rfl,rfl,rfl,by decide +kernel,rfl,by decide +kernel,by decide +kernel⟩
theorem ok_Book_moved (T:Txt K mg A):FnOk P w K mg base CX0 4 A.f_Book_moved A.d_Book_moved ["self","place","new_place","new_size"] (sp_Book_moved A):=by
 refine (T.m_Book_moved.fn).ok sc_Book_moved (fun vs H Q E h=>?_) (fun cdv AA outer s H vs Q E hr h=>?_)
 ·obtain ⟨b,B,s,p,t,z,rfl,_⟩:=h
  rfl
 ·obtain ⟨b,B,s,p,t,z,rfl,R,k⟩:=h
  refine ⟨_,(pss_cons (ps_if (pw_or (pt_not (pt_val (pe_call (ok_within T) (hr.mono (by decide)) (by rfl) T.u_within.mg T.u_within.kp T.u_within.bi .nil pass0 (pa_cons (pv 1) (pa_cons (pe_gint T.g_MOST_PLACE) pa_nil))))) (pw_or (pt_not (pt_val (pe_call (ok_within T) (hr.mono (by decide)) (by rfl) T.u_within.mg T.u_within.kp T.u_within.bi .nil pass0 (pa_cons (pv 2) (pa_cons (pe_gint T.g_MOST_PLACE) pa_nil))))) (pw_or1 (pt_not (pt_val (pe_call (ok_within T) (hr.mono (by decide)) (by rfl) T.u_within.mg T.u_within.kp T.u_within.bi .nil pass0 (pa_cons (pv 3) (pa_cons (pe_gint T.g_MOST_SIZE) pa_nil)))))))).pt
    (pss_one (ps_ret (pe_lst (pa_cons (pe_gint T.g_OUT_OF_RANGE) pa_nil))))
    pss_nil)
   (pss_cons (ps_if (pt_not (pt_val (pe_meth (pe_fld (pv 0) rfl) T.cl_Pieces T.m_Pieces_has.me (ok_Pieces_has T) (hr.mono (by decide)) T.m_Pieces_has.bi .nil pass0 (pa_cons (pv 1) pa_nil))))
    (pss_one (ps_ret (pe_lst (pa_cons (pe_gint T.g_NOT_THERE) pa_nil))))
    pss_nil)
   (pss_cons (ps_if (pt_not (pt_val (pe_meth (pe_fld (pv 0) rfl) T.cl_Pieces T.m_Pieces_is_free.me (ok_Pieces_is_free T) (hr.mono (by decide)) T.m_Pieces_is_free.bi .nil pass0 (pa_cons (pv 2) (pa_cons (pv 3) (pa_cons (pv 1) pa_nil))))))
    (pss_one (ps_ret (pe_lst (pa_cons (pe_gint T.g_NOT_FREE) pa_nil))))
    pss_nil)
   (pss_cons (ps_set (i:=4) sc_Book_moved.nd rfl (Or.inl rfl) (pe_meth (pe_fld (pv 0) rfl) T.cl_Pieces T.m_Pieces_take.me (ok_Pieces_take T) (hr.mono (by decide)) T.m_Pieces_take.bi .nil pass0 (pa_cons (pv 1) pa_nil)))
   (pss_cons (ps_set (i:=5) sc_Book_moved.nd rfl (Or.inl rfl) (pe_op op_sub (pv 3) (pe_fld (pv 4) rfl)))
   (pss_cons (ps_expr (pe_meth (pe_fld (pv 0) rfl) T.cl_Rows T.m_Rows_note_moved.me (ok_Rows_note_moved T) (hr.mono (by decide)) T.m_Rows_note_moved.bi .nil pass0 (pa_cons (pe_fld (pv 4) rfl) (pa_cons (pv 3) pa_nil))))
   (pss_cons (ps_fld (pv 4) (pv 2) rfl)
   (pss_cons (ps_fld (pv 4) (pv 3) rfl)
   (pss_cons (ps_expr (pe_meth (pe_fld (pv 0) rfl) T.cl_Pieces T.m_Pieces_put.me (ok_Pieces_put T) (hr.mono (by decide)) T.m_Pieces_put.bi .nil pass0 (pa_cons (pv 4) pa_nil)))
   (pss_cons (ps_expr (pe_meth (pv 0) T.cl_Book T.m_Book_count_live.me (ok_Book_count_live T) (hr.mono (by decide)) T.m_Book_count_live.bi .nil pass0 (pa_cons (pe_fld (pv 4) rfl) (pa_cons pe_int (pa_cons (pv 5) pa_nil)))))
   (pss_one (ps_ret (pe_lst (pa_cons (pe_fld (pv 4) rfl) pa_nil)))))))))))))),?_⟩
  refine ⟨_,rfl,p,1099511627775,rfl,_,rfl,ite2 (fun c=>iteT (by first | exact c | rfl) ?_) (fun c=>?_)⟩
  ·exact k.same R (if_pos (by rw [placeF (nwT c)];rfl))
  have hp:=placeT (nwF c)
  refine ⟨_,rfl,t,1099511627775,rfl,_,rfl,ite2 (fun c=>iteT (by first | exact c | rfl) ?_) (fun c=>?_)⟩
  ·exact k.same R (if_pos (by rw [placeF (nwT c),hp];rfl))
  have ht:=placeT (nwF c)
  refine ⟨_,rfl,z,4294967295,rfl,_,rfl,ite2 (fun c=>?_) (fun c=>?_)⟩
  ·exact k.same R (if_pos (by rw [wordF (nwT c),hp,ht];rfl))
  have hz0:=nwF c
  have hz:=wordT hz0
  have hz1:z<2 ^ 32:=by omega
  have c1:¬ (isPlace p && (isPlace t && isWord z))=false:=by rw [hp,ht,hz];decide
  have W:=R.good.wf
  refine ⟨_,rfl,rd_fld T.fd_Book_pieces R.at_.ob rfl (rd_meth R.at_.pcs.ob (by decide +kernel) ⟨_,rfl,B.pc,B.pd,B.pl,B.L,B.xs,p,rfl,R.at_.pcs,_,rfl,?_⟩)⟩
  rw [has_live R]
  have e0:∀ x,pieceAt s p=x→does s (.moved p t z)=match x with
    | none=>(s,num (-4))
    | some q=>if (s.live.any fun r=>r.number != q.number && hits t z r)=true then (s,num (-3)) else (movedPiece s q t z,Sh28.nat q.number):=fun x h=>by subst h;exact if_neg c1
  cases hq:pieceAt s p with
  | none=>exact iteT rfl (k.same R (e0 _ hq))
  | some q =>
  refine iteF (by simp) ?_
  have hd0:=e0 _ hq
  obtain ⟨hql,hqp,a,haL⟩:=piece_of R hq
  refine ⟨_,rfl,rd_fld T.fd_Book_pieces R.at_.ob rfl (rd_meth R.at_.pcs.ob (by decide +kernel) ⟨_,rfl,_,rfl,_,rfl,B.pc,B.pd,B.pl,B.L,B.xs,t,z,p,rfl,R.at_.pcs,_,rfl,?_⟩)⟩
  rw [free_live R hql hqp]
  refine ite2 (fun c=>?_) (fun c=>?_)<;>rw [Bool.not_not] at c
  ·exact k.same R (hd0.trans (if_pos c))
  have hd:does s (.moved p t z)=(movedPiece s q t z,Sh28.nat q.number):=hd0.trans (if_neg c)
  have hf:=Bool.eq_false_iff.mpr c
  have hoa:=R.at_.pcs.obs (a,q) haL
  obtain ⟨nad,nal⟩:=R.at_.pcs.pne hoa
  refine ⟨_,rfl,rd_fld T.fd_Book_pieces R.at_.ob rfl (rd_meth R.at_.pcs.ob (by decide +kernel) ⟨_,rfl,B.pc,B.pd,B.pl,B.L,B.xs,a,q,by rw [hqp];rfl,R.at_.pcs,haL,fun xs' H1 P1 e1=>?_⟩)⟩
  obtain ⟨R1,O1⟩:=R.at_.pcs' P1 fun x _ n1 n2 _=>e1 x n1 n2
  have q1:Ob H1 a A.c_Piece K_Piece (pieceV q):=hoa.same (e1 a nad nal)
  refine ⟨_,rfl,_,rfl,rd_fld T.fd_Piece_size q1 rfl ⟨_,_,rfl,rfl,?_⟩⟩
  have hzq:=R.good.size q hql
  refine ⟨_,rfl,rd_fld T.fd_Book_rows R1.ob rfl (rd_meth R1.rows.ob (by decide +kernel) ⟨_,rfl,rd_fld T.fd_Piece_size q1 rfl ⟨_,rfl,B.rw,B.l1,B.l2,B.l3,B.l4,_,_,_,_,q.size,z,rfl,hzq,hz1,R1.rows,fun H2 W2 e2=>?_⟩⟩)⟩
  obtain ⟨R2,O2⟩:=R1.rows' W2 fun x _ n2 _ _=>e2 x n2
  have O2:=O1.trans O2
  have q2:Ob H2 a A.c_Piece K_Piece (pieceV q):=q1.same (e2 a (tg_ne (tg_piece q1) (tg_ls R1.rows.h2)))
  have hne:∀ x∈B.L.filter (fun x=>x.2.number != q.number),x.1≠a:=fun x hx e=>by
   rw [List.mem_filter,bne_iff_ne] at hx
   have hnd:=R.at_.pcs.nd
   rw [List.nodup_iff_pairwise_ne,List.pairwise_map] at hnd
   have:=pw_inj (f:=fun x:Addr × Piece=>x.1) hnd hx.1 haL e
   exact hx.2 (by rw [this])
  have step:∀ {G1 G2:Hp}{v1 v2:List V}{D:Dt},At A G1 b { B with L:=B.L.filter fun x=>x.2.number != q.number,xs:=xs' } D→Ob G1 a A.c_Piece K_Piece (.int q.number::v1)→(∀ x,x≠a→G2 x=G1 x)→At A G2 b { B with L:=B.L.filter fun x=>x.2.number != q.number,xs:=xs' } D∧Out G1 G2 { B with L:=B.L.filter fun x=>x.2.number != q.number,xs:=xs' } { B with L:=B.L.filter fun x=>x.2.number != q.number,xs:=xs' }:=fun {G1 G2 v1 v2 D} RR oo kk=>by
   obtain ⟨kvs,hkd,_⟩:=RR.pcs.dict
   exact RR.pcs' (RR.pcs.kept (kk _ (tg_ne (tg_pcs RR.pcs.ob) (tg_piece oo))) (kk _ (tg_ne (tg_dK hkd) (tg_piece oo))) (kk _ (tg_ne (tg_ls RR.pcs.lst) (tg_piece oo))) fun x hx=>kk _ (hne x hx)) fun x _ _ _ ht=>kk x fun e=>ht (by rw [e];exact tg_piece oo)
  refine ⟨_,rfl,_,rfl,wr_fld T.fd_Piece_place q2 rfl fun H3 h3 k3=>?_⟩
  obtain ⟨R3,O3⟩:=step (v1:=[.int q.place,.int q.size,.int q.node,.int q.born]) (v2:=[]) R2 q2 k3
  have O3:=O2.trans O3
  refine ⟨_,rfl,_,rfl,wr_fld T.fd_Piece_size h3 rfl fun H4 h4 k4=>?_⟩
  obtain ⟨R4,O4⟩:=step (v1:=[.int t,.int q.size,.int q.node,.int q.born]) (v2:=[]) R3 h3 k4
  have O4:=O3.trans O4
  have q4:Ob H4 a A.c_Piece K_Piece (pieceV { q with place:=t,size:=z }):=h4
  have hP:=perm_rest R.good.num hql
  have hrl:=rest_live R q
  have hlen:(B.L.filter fun x=>x.2.number != q.number).length<65536:=by
   have h1:=hP.length_eq
   have h2:=hrl.length_eq
   have h3:=R.good.few
   rw [List.length_cons] at h1
   rw [List.length_map] at h2
   omega
  have hnot:a∉(B.L.filter fun x=>x.2.number != q.number).map (·.1):=fun h=>by
   obtain ⟨x,hx,e⟩:=List.mem_map.mp h
   exact hne x hx e
  have hap:∀ x∈(B.L.filter fun x=>x.2.number != q.number).map (·.2),Apart { q with place:=t,size:=z } x∧q.number≠x.number:=fun x hx=>by
   have hx:=hrl.mem_iff.mp hx
   rw [List.mem_filter] at hx
   have h2:=List.any_eq_false.mp hf x hx.1
   rw [Bool.and_eq_true,not_and] at h2
   exact ⟨(apart_iff _ _).mpr (Bool.eq_false_iff.mpr (h2 hx.2)),fun e=>bne_iff_ne.mp hx.2 e.symm⟩
  refine ⟨_,rfl,rd_fld T.fd_Book_pieces R4.ob rfl (rd_meth R4.pcs.ob (by decide +kernel) ⟨_,rfl,B.pc,B.pd,B.pl,_,_,a,{ q with place:=t,size:=z },rfl,R4.pcs,q4,hnot,hap,hlen,fun xs5 H5 P5 e5=>?_⟩)⟩
  obtain ⟨R5,O5⟩:=R4.pcs' P5 fun x _ n1 n2 _=>e5 x n1 n2
  have O5:=O4.trans O5
  have q5:=R5.pcs.obs (a,{ q with place:=t,size:=z }) List.mem_cons_self
  refine ⟨_,rfl,rd_meth R5.ob (by decide +kernel) ⟨_,rfl,rd_fld T.fd_Piece_owner q5 rfl ⟨_,rfl,b,_,_,q.node,0,(z:Int) - q.size,rfl,R5,W,R.good.node q hql,fun H6 R6 O6=>?_⟩⟩⟩
  have O6:=O5.trans O6
  have q6:=R6.pcs.obs (a,{ q with place:=t,size:=z }) List.mem_cons_self
  refine ⟨_,rfl,rd_fld T.fd_Piece_number q6 rfl (k.one (v:=(q.number:Int)) (H1:=H6) (B1:={ B with L:=(a,{ q with place:=t,size:=z })::B.L.filter fun x=>x.2.number != q.number,xs:=xs5 }) ?_ O6 (by unfold ansOf;rw [hd];rfl))⟩
  rw [hd]
  have hM:=moved_perm R.good hql t z
  have hs1:=sumOf_perm hP
  have hs2:=sumOf_perm hM
  rw [sumOf_cons] at hs1 hs2
  have hs2:sumOf (moved0 s q t z).live=z+sumOf (s.live.filter fun x=>x.number != q.number):=hs2
  refine ⟨R6.eqv (D':=dt (movedPiece s q t z)) (moved_shape q t z) rfl (fun j _=>num_moved R.good hql) (Dt.ext' rfl ?_ ?_ ?_ rfl rfl rfl rfl ?_ rfl rfl rfl rfl ?_ ?_ rfl),((hrl.cons _).trans hM.symm),good_moved R.good hql hz1 hf⟩
  ·show (sumOf s.live:Int)+((z:Int) - q.size)=(sumOf (moved0 s q t z).live:Nat)
   omega
  ·show max (s.peak:Int) ((sumOf s.live:Nat)+((z:Int) - q.size))=((max s.peak (sumOf (moved0 s q t z).live):Nat):Int)
   omega
  ·show (if (s.peak:Int)<(sumOf s.live:Nat)+((z:Int) - q.size) then (s.time:Int) else s.peakAt)=((if s.peak<sumOf (moved0 s q t z).live then s.time else s.peakAt:Nat):Int)
   by_cases hh:s.peak<sumOf (moved0 s q t z).live
   ·rw [if_pos hh,if_pos (by omega)]
   ·rw [if_neg hh,if_neg (by omega)]
  ·show bumpI (bumpI (liveRow s.live) (classOf q.size) (-1)) (classOf z) 1=liveRow (moved0 s q t z).live
   rw [liveRow_perm hP,liveRow_cons,bumpI_off,liveRow_perm hM,liveRow_cons]
  ·show (s.nodes.map fun n=>n.picks).sum=((movedPiece s q t z).nodes.map fun n=>n.picks).sum
   rw [nodes_map,nodes_map,moved_len]
   refine congrArg List.sum (List.map_congr_left fun j _=>?_)
   rw [moved_node R.good hql]
   by_cases e:j=q.node
   ·rw [if_pos e,e]
   ·rw [if_neg e]
  ·funext j
   show ((nodeAt s j).picks,(nodeAt s j).rates)=((nodeAt (movedPiece s q t z) j).picks,(nodeAt (movedPiece s q t z) j).rates)
   rw [moved_node R.good hql]
   by_cases e:j=q.node
   ·rw [if_pos e,e]
   ·rw [if_neg e]
end
end Bk
namespace Bk
open PySem L2
open Sh28 (State nodeAt depthOf child up under wayUp pathOf findWay begun Piece does num)
def Fill (H:Hp) (p C:Addr) (ks:List Str) (us:List V):Prop:=∃ dx,H p=some (.ins C dx ((ks.take us.length).zip us))∨∃ rest:List V,us.length+rest.length=ks.length∧H p=some (.ins C dx (ks.zip (us++rest)))
section
variable {K:PySem.W.Frag}{C p:Addr}{ks:List Str}{f:Str}{i:Nat}{us:List V}{y:V}{H H':Hp}
theorem fill_fld {nx:Hp→Prop} (T:Fd K C ks f i) (h:Fill H p C ks us) (hi:us.length=i) (hn:(ks.take i).contains f=false) (ht:ks.take i++[f]=ks.take (i+1)) (q:∀ H',Fill H' p C ks (us++[y])→(∀ b,b≠p→H' b=H b)→nx H') :
  ∃ a C dx fs,V.ref p=.ref a∧H a=some (.ins C dx fs)∧Cls K C∧NoAttr K C f∧fs.length<1000∧nx (upd H a (.ins C dx (putF f y fs))):=by
 have hb:i<ks.length:=(List.findIdx?_eq_some_iff_getElem.mp T.ix).1
 have hl:(us++[y]).length=i+1:=by rw [List.length_append,hi];rfl
 have htl:(ks.take i).length=i:=by rw [List.length_take];omega
 obtain ⟨dx,h | ⟨rest,hr,h⟩⟩:=h
 ·refine nf_fld (ks:=ks.take i) (vs:=us) T ⟨dx,by rw [h,hi]⟩ (by rw [htl,hi]) htl hn fun H' h' k'=>q H' ?_ k'
  obtain ⟨dx',h'⟩:=h'
  exact ⟨dx',.inl (by rw [hl,← ht];exact h')⟩
 ·refine wr_fld (vs:=us++rest) T ⟨dx,h⟩ (by rw [List.length_append];omega) fun H' h' k'=>q H' ?_ k'
  obtain ⟨dx',h'⟩:=h'
  cases rest with
  | nil=>rw [List.length_nil] at hr;omega
  | cons r rest =>
   refine ⟨dx',.inr ⟨rest,by rw [hl];rw [List.length_cons] at hr;omega,?_⟩⟩
   rw [h',List.append_assoc]
   have:(us++r::rest).set i y=us++([y]++rest):=by
    subst hi;rw [List.set_append_right _ _ (Nat.le_refl _),Nat.sub_self];rfl
   rw [this]
theorem Fill.full (h:Fill H p C ks us) (hl:us.length=ks.length):Ob H p C ks us:=by
 obtain ⟨dx,h | ⟨rest,hr,h⟩⟩:=h
 ·exact ⟨dx,by rw [h,hl,List.take_length]⟩
 ·have:rest=[]:=List.eq_nil_of_length_eq_zero (by omega)
  subst this
  exact ⟨dx,by rw [h,List.append_nil]⟩
theorem Fill.same (h:Fill H p C ks us) (e:H' p=H p):Fill H' p C ks us:=by unfold Fill;rw [e];exact h
theorem Fill.some (h:Fill H p C ks us):H p≠none:=by
 obtain ⟨dx,h | ⟨rest,hr,h⟩⟩:=h<;>rw [h]<;>simp
theorem fill_tg {v:V}{us:List V} (h:Fill H p C K_Book (v::us)):tg (H p)=.book:=by
 obtain ⟨dx,h | ⟨rest,hr,h⟩⟩:=h<;>rw [h]<;>show tgS "time"=_<;>decide +kernel
def Fb (H H':Hp) (b:Addr):Prop:=∀ x,H x≠none→x≠b→H' x=H x
theorem Fb.trans {H1 H2 H3:Hp}{b:Addr} (h:Fb H1 H2 b) (h':Fb H2 H3 b):Fb H1 H3 b:=fun x hx hb=>by rw [h' x (by rw [h x hx hb];exact hx) hb,h x hx hb]
theorem Fb.fr {H1 H2:Hp}{b:Addr} (h:Fb H1 H2 b) (hb:tg (H1 b)=.book):Fr H1 H2 [.book] [] []:=fun x h0 h1 _ _=>h x (tg_some h0) fun e=>h1 (by rw [e,hb];decide)
theorem upn {a x:Addr}{o:HO} (h:upd H a o x=none):x≠a∧H x=none:=by
 by_cases e:x=a
 ·rw [e,upd_same] at h;cases h
 ·rw [upd_ne e] at h;exact ⟨e,h⟩
theorem upn2 {a d x:Addr}{o u:HO} (h:upd (upd H d u) a o x=none):H x=none:=(upn (upn h).2).2
end
structure AtN (A:Adr) (H:Hp) (b:Addr) (B:Bd) (D:Dt):Prop where
 ob:Ob H b A.c_Book K_Book (bkV B D)
 ways:WaysAt A H B.wy B.nl B.sd B.as D.s D.f
 pcs:PcsAt A H B.pc B.pd B.pl B.L B.xs
 rows:RowsAt A H B.rw B.l1 B.l2 B.l3 B.l4 D.ra D.rb D.rc D.rd
 picks:PicksAt A H B.pk B.kd D.rate D.off D.tot D.g
 mkl:H B.ma=some (.lst (B.ms.map V.ref))
 mkn:B.ms.length=D.marks.length
 mks:∀ (i:Nat) (m:Addr) (r:List (List Int)),B.ms[i]?=some m→D.marks[i]?=some r→Tups H m r
 dn:B.pd≠B.kd
 nd:B.ls.Nodup
theorem AtN.full {A:Adr}{H H':Hp}{b:Addr}{B:Bd}{D:Dt} (N:AtN A H' b B D) (hbm:BmH A H) (ht1:LamTab H A.t_Pieces_eldest lq_Pieces_eldest lp_Pieces_eldest) (ht2:LamTab H A.t_Ways_most lq_Ways_most lp_Ways_most) (htn:A.t_Pieces_eldest≠A.t_Ways_most) (hnt:tg (H b)≠.tb) (hne:tg (H b)≠.ex) (F0J:Fb H H' b):At A H' b B D:=by
 have tab:∀ {t:Addr}{q:Str}{l:Pos},LamTab H t q l→LamTab H' t q l:=fun {t q l} ⟨ps,e,r⟩ =>
  ⟨ps,by rw [F0J _ (by rw [e];simp) fun e'=>hnt (by rw [← e'];exact tg_tb e)];exact e,r.elim .inl fun ⟨c,e1,e2⟩=>.inr ⟨c,e1,by rw [F0J _ (by rw [e2];simp) fun e'=>hne (by rw [← e',e2];rfl)];exact e2⟩⟩
 have:H' A.a_bm=H A.a_bm:=F0J _ (by rw [show H A.a_bm=_ from hbm];simp) fun e=>hne (by rw [← e,show H A.a_bm=_ from hbm];rfl)
 exact ⟨N.ob,N.ways,N.pcs,N.rows,N.picks,N.mkl,N.mkn,N.mks,by unfold BmH;rw [this];exact hbm,tab ht1,tab ht2,htn,N.dn,N.nd⟩
section
variable {P:Program}{w:World}{K:PySem.W.Frag}{mg:Str→Option Value}{base:Heap}{A:Adr}
def sp_Book_begin (A:Adr):Sp:=fun vs H Q _=>∃ b:Addr,vs=[.ref b]∧Fill H b A.c_Book K_Book [] ∧
 ∀ (r:Addr) (H':Hp) (B':Bd),AtN A H' b B' (dt begun)→B'.L=[]→H' r=some (.lst [.int 0])→H r=none→Fb H H' b→(∀ x∈B'.ls,H x=none)→Q (.ref r) H'
theorem sc_Book_begin:FnScope ["self"] ["self"] (defScope s_Book_begin):=⟨rfl,rfl,rfl,by decide +kernel,rfl,by decide +kernel,by decide +kernel⟩
theorem ok_Book_begin (T:Txt K mg A):FnOk P w K mg base CX0 5 A.f_Book_begin A.d_Book_begin ["self"] (sp_Book_begin A):=by
 refine (T.m_Book_begin.fn).ok sc_Book_begin (fun vs H Q E h=>?_) (fun cdv AA outer s H vs Q E hr h=>?_)
 ·obtain ⟨b,rfl,_⟩:=h
  rfl
 ·obtain ⟨b,rfl,f0,k⟩:=h
  refine ⟨_,(pss_cons (ps_fld (pv 0) pe_int rfl)
   (pss_cons (ps_fld (pv 0) (pe_make0 T.mk_Ways (ok_Ways___init__ T) (hr.mono (by decide)) (by rfl) T.mg_Ways T.m_Ways___init__.bi .nil pass0) rfl)
   (pss_cons (ps_fld (pv 0) (pe_make0 T.mk_Pieces (ok_Pieces___init__ T) (hr.mono (by decide)) (by rfl) T.mg_Pieces T.m_Pieces___init__.bi .nil pass0) rfl)
   (pss_cons (ps_fld (pv 0) (pe_make0 T.mk_Rows (ok_Rows___init__ T) (hr.mono (by decide)) (by rfl) T.mg_Rows T.m_Rows___init__.bi .nil pass0) rfl)
   (pss_cons (ps_fld (pv 0) (pe_make0 T.mk_Picks (ok_Picks___init__ T) (hr.mono (by decide)) (by rfl) T.mg_Picks T.m_Picks___init__.bi .nil pass0) rfl)
   (pss_cons (ps_fld (pv 0) (pe_lst pa_nil) rfl)
   (pss_cons (ps_fld (pv 0) pe_int rfl)
   (pss_cons (ps_fld (pv 0) pe_int rfl)
   (pss_cons (ps_fld (pv 0) pe_int rfl)
   (pss_cons (ps_fld (pv 0) pe_int rfl)
   (pss_cons (ps_fld (pv 0) pe_int rfl)
   (pss_cons (ps_fld (pv 0) pe_int rfl)
   (pss_one (ps_ret (pe_lst (pa_cons pe_int pa_nil)))))))))))))))),?_⟩
  refine ⟨_,rfl,fill_fld T.fd_Book_time f0 rfl (by decide +kernel) (by decide +kernel) fun H1 f1 k1=>?_⟩
  have F01:Fb H H1 b:=fun x _ n=>k1 x n
  intro wy wd nwy nwd _
  refine ⟨wy,wd,rfl,upd_same,fun nl sd n0 H2 hnl hsd hn0 W2 e2=>⟨rfl,?_⟩⟩
  have F12:∀ x,H1 x≠none→H2 x=H1 x:=fun x hx=>by
   have n1:x≠wy:=fun e=>hx (by rw [e];exact nwy)
   have n2:x≠wd:=fun e=>hx (by rw [e];exact nwd)
   rw [e2 x (by rw [upd_ne n1,upd_ne n2];exact hx) n1,upd_ne n1,upd_ne n2]
  have gnl:=upn2 hnl
  have f2:=f1.same (F12 b f1.some)
  refine ⟨_,rfl,fill_fld T.fd_Book_ways f2 rfl (by decide +kernel) (by decide +kernel) fun H3 f3 k3=>?_⟩
  have F23:Fb H2 H3 b:=fun x _ n=>k3 x n
  intro pc pcd npc npcd _
  refine ⟨pc,pcd,rfl,upd_same,fun pd pl H4 hpd hpl _ W4 e4=>⟨rfl,?_⟩⟩
  have gpd:=upn2 hpd
  have gpl:=upn2 hpl
  have F34:∀ x,H3 x≠none→H4 x=H3 x:=fun x hx=>by
   have n1:x≠pc:=fun e=>hx (by rw [e];exact npc)
   have n2:x≠pcd:=fun e=>hx (by rw [e];exact npcd)
   rw [e4 x n1 (fun e=>hx (by rw [e];exact gpd)) (fun e=>hx (by rw [e];exact gpl)),upd_ne n1,upd_ne n2]
  have f4:=f3.same (F34 b f3.some)
  refine ⟨_,rfl,fill_fld T.fd_Book_pieces f4 rfl (by decide +kernel) (by decide +kernel) fun H5 f5 k5=>?_⟩
  have F45:Fb H4 H5 b:=fun x _ n=>k5 x n
  intro rw_ rwd nrw nrwd _
  refine ⟨rw_,rwd,rfl,upd_same,fun l1 l2 l3 l4 H6 hl1 hl2 hl3 hl4 W6 e6=>⟨rfl,?_⟩⟩
  have F56:∀ x,H5 x≠none→H6 x=H5 x:=fun x hx=>by
   have n1:x≠rw_:=fun e=>hx (by rw [e];exact nrw)
   have n2:x≠rwd:=fun e=>hx (by rw [e];exact nrwd)
   rw [e6 x (by rw [upd_ne n1,upd_ne n2];exact hx) n1,upd_ne n1,upd_ne n2]
  have g1:=upn2 hl1
  have g2:=upn2 hl2
  have g3:=upn2 hl3
  have g4:=upn2 hl4
  have f6:=f5.same (F56 b f5.some)
  refine ⟨_,rfl,fill_fld T.fd_Book_rows f6 rfl (by decide +kernel) (by decide +kernel) fun H7 f7 k7=>?_⟩
  have F67:Fb H6 H7 b:=fun x _ n=>k7 x n
  intro pk pkd npk npkd _
  refine ⟨pk,pkd,rfl,upd_same,fun kd H8 hkd W8 e8=>⟨rfl,?_⟩⟩
  have F78:∀ x,H7 x≠none→H8 x=H7 x:=fun x hx=>by
   have n1:x≠pk:=fun e=>hx (by rw [e];exact npk)
   have n2:x≠pkd:=fun e=>hx (by rw [e];exact npkd)
   rw [e8 x (by rw [upd_ne n1,upd_ne n2];exact hx) n1,upd_ne n1,upd_ne n2]
  have gkd:=upn2 hkd
  have f8:=f7.same (F78 b f7.some)
  refine ⟨_,rfl,fill_fld T.fd_Book_picks f8 rfl (by decide +kernel) (by decide +kernel) fun H9 f9 k9=>?_⟩
  have F89:Fb H8 H9 b:=fun x _ n=>k9 x n
  refine ⟨by decide,fun ma gma=>?_⟩
  have F9A:∀ x,H9 x≠none→upd H9 ma (.lst []) x=H9 x:=fun x hx=>upd_ne fun e=>hx (by rw [e];exact gma)
  have hma:upd H9 ma (.lst []) ma=some (.lst []):=upd_same
  generalize upd H9 ma (.lst [])=HA at F9A hma ⊢
  have fA:=f9.same (F9A b f9.some)
  refine ⟨_,rfl,fill_fld T.fd_Book_marks fA rfl (by decide +kernel) (by decide +kernel) fun HB fB kB=>?_⟩
  refine ⟨_,rfl,fill_fld T.fd_Book_live_bytes fB rfl (by decide +kernel) (by decide +kernel) fun HC fC kC=>?_⟩
  refine ⟨_,rfl,fill_fld T.fd_Book_peak_bytes fC rfl (by decide +kernel) (by decide +kernel) fun HD fD kD=>?_⟩
  refine ⟨_,rfl,fill_fld T.fd_Book_peak_time fD rfl (by decide +kernel) (by decide +kernel) fun HE fE kE=>?_⟩
  refine ⟨_,rfl,fill_fld T.fd_Book_made_pieces fE rfl (by decide +kernel) (by decide +kernel) fun HF fF kF=>?_⟩
  refine ⟨_,rfl,fill_fld T.fd_Book_made_bytes fF rfl (by decide +kernel) (by decide +kernel) fun HG fG kG=>?_⟩
  refine ⟨_,rfl,fill_fld T.fd_Book_went_pieces fG rfl (by decide +kernel) (by decide +kernel) fun HI fI kI=>?_⟩
  refine ⟨by decide,fun r hr'=>?_⟩
  have eJ:∀ x,HI x≠none→upd HI r (.lst [.int 0]) x=HI x:=fun x hx=>upd_ne fun e=>hx (by rw [e];exact hr')
  have hrJ:upd HI r (.lst [.int 0]) r=some (.lst [.int 0]):=upd_same
  generalize upd HI r (.lst [.int 0])=HJ at eJ hrJ ⊢
  have FAI:Fb HA HI b:=fun x _ n=>by rw [kI x n,kG x n,kF x n,kE x n,kD x n,kC x n,kB x n]
  have FAJ:Fb HA HJ b:=FAI.trans fun x hx _=>eJ x hx
  have F8J:Fb H8 HJ b:=F89.trans (Fb.trans (fun x hx _=>F9A x hx) FAJ)
  have F7J:Fb H7 HJ b:=Fb.trans (fun x hx _=>F78 x hx) F8J
  have F6J:Fb H6 HJ b:=F67.trans F7J
  have F5J:Fb H5 HJ b:=Fb.trans (fun x hx _=>F56 x hx) F6J
  have F4J:Fb H4 HJ b:=F45.trans F5J
  have F3J:Fb H3 HJ b:=Fb.trans (fun x hx _=>F34 x hx) F4J
  have F2J:Fb H2 HJ b:=F23.trans F3J
  have F0J:Fb H HJ b:=F01.trans (Fb.trans (fun x hx _=>F12 x hx) F2J)
  have back:∀ {X Y:Hp}{x:Addr},Fb X Y b→Y x=none→x≠b→X x=none:=fun {X Y x} F h n=>by
   cases e:X x with
   | none=>rfl
   | some u=>rw [F x (by rw [e];simp) n,e] at h;cases h
  have F02:Fb H H2 b:=F01.trans fun x hx _=>F12 x hx
  have F03:Fb H H3 b:=F02.trans F23
  have F05:Fb H H5 b:=F03.trans (Fb.trans (fun x hx _=>F34 x hx) F45)
  have F07:Fb H H7 b:=F05.trans (Fb.trans (fun x hx _=>F56 x hx) F67)
  have F09:Fb H H9 b:=F07.trans (Fb.trans (fun x hx _=>F78 x hx) F89)
  have F0I:Fb H HI b:=F09.trans (Fb.trans (fun x hx _=>F9A x hx) FAI)
  have nb:∀ {X:Hp}{us:List V}{x:Addr},Fill X b A.c_Book K_Book us→X x=none→x≠b:=fun {X us x} f h e=>f.some (by rw [← e];exact h)
  have b2:=fill_tg f2
  have b4:=fill_tg f4
  have b6:=fill_tg f6
  have b8:=fill_tg f8
  have bA:=fill_tg fA
  have k2:=F2J.fr b2
  have k4:=F4J.fr b4
  have k6:=F6J.fr b6
  have k8:=F8J.fr b8
  have kA:=FAJ.fr bA
  have oJ:Ob HJ b A.c_Book K_Book _:=(fI.same (eJ b fI.some)).full rfl
  have l2':∀ {X:Hp}{x y:Addr}{u:HO},X x=some u→X y=none→x≠y:=fun h h'=>ne_of_none h h'
  have c3:H3 nl≠none:=by rw [F23 nl (by rw [W2.lst];simp) (tg_ne (tg_ls W2.lst) b2)];rw [W2.lst];simp
  have F35:Fb H3 H5 b:=Fb.trans (fun x hx _=>F34 x hx) F45
  have F57:Fb H5 H7 b:=Fb.trans (fun x hx _=>F56 x hx) F67
  have F79:Fb H7 H9 b:=Fb.trans (fun x hx _=>F78 x hx) F89
  have nlb:nl≠b:=tg_ne (tg_ls W2.lst) b2
  have plb:pl≠b:=tg_ne (tg_ls W4.lst) b4
  obtain ⟨kvs4,hd4,_⟩:=W4.dict
  have pdb:pd≠b:=tg_ne (tg_dK hd4) b4
  have c5:H5 nl≠none:=by rw [F35 nl c3 nlb];exact c3
  have c7:H7 nl≠none:=by rw [F57 nl c5 nlb];exact c5
  have c9:H9 nl≠none:=by rw [F79 nl c7 nlb];exact c7
  have d5:H5 pl≠none:=by rw [F45 pl (by rw [W4.lst];simp) plb,W4.lst];simp
  have d7:H7 pl≠none:=by rw [F57 pl d5 plb];exact d5
  have d9:H9 pl≠none:=by rw [F79 pl d7 plb];exact d7
  have p5:H5 pd≠none:=by rw [F45 pd (by rw [hd4];simp) pdb,hd4];simp
  have p7:H7 pd≠none:=by rw [F57 pd p5 pdb];exact p5
  have r9:∀ {x:Addr}{xs:List V},H6 x=some (.lst xs)→H9 x≠none:=fun {x xs} h=>by
   have xb:x≠b:=tg_ne (tg_ls h) b6
   rw [(F67.trans F79) x (by rw [h];simp) xb,h];simp
  have na:∀ {X:Hp}{x y:Addr},X x≠none→X y=none→x≠y:=fun h h' e=>h (by rw [e];exact h')
  have hnd:=W6.nd
  refine k r HJ ⟨wy,nl,sd,[n0],pc,pd,pl,[],[],rw_,l1,l2,l3,l4,pk,kd,ma,[]⟩ ⟨oJ,(W2.fr k2 (by decide) (by simp)).shape rfl rfl num_begun,W4.fr k4 (by decide) (by simp) (by simp),W6.fr k6 (by decide) (by simp),?_,by rw [kA.ls (tg_ls hma) (by decide) (by simp)];exact hma,rfl,fun i m r h1 h2=>by simp at h1,na p7 gkd,?_⟩ rfl hrJ (back F0I hr' (nb fI hr')) F0J fun x hx=>?_
  ·have hg:(dt begun).g=fun _=>(0,0):=funext fun j=>by
    cases j with
    | zero=>rfl
    | succ j=>rfl
   rw [hg]
   exact W8.fr k8 (by decide) (by simp)
  ·show [nl,pl,l1,l2,l3,l4,ma].Nodup
   simp only [List.nodup_cons,List.mem_cons,List.not_mem_nil,or_false,not_or] at hnd ⊢
   obtain ⟨⟨q1,q2,q3⟩,⟨q4,q5⟩,q6,_⟩:=hnd
   exact ⟨⟨na c3 gpl,na c5 g1,na c5 g2,na c5 g3,na c5 g4,na c9 gma⟩,⟨na d5 g1,na d5 g2,na d5 g3,na d5 g4,na d9 gma⟩,⟨q1,q2,q3,na (r9 W6.h1) gma⟩,⟨q4,q5,na (r9 W6.h2) gma⟩,⟨q6,na (r9 W6.h3) gma⟩,na (r9 W6.h4) gma,not_false,List.nodup_nil⟩
  ·have hx:x∈[nl,pl,l1,l2,l3,l4,ma]:=hx
   simp only [List.mem_cons,List.not_mem_nil,or_false] at hx
   rcases hx with rfl | rfl | rfl | rfl | rfl | rfl | rfl
   ·exact back F01 gnl nlb
   ·exact back F03 gpl plb
   ·exact back F05 g1 (nb f5 g1)
   ·exact back F05 g2 (nb f5 g2)
   ·exact back F05 g3 (nb f5 g3)
   ·exact back F05 g4 (nb f5 g4)
   ·exact back F09 gma (nb f9 gma)
def sp_Book___init__ (A:Adr):Sp:=fun vs H Q _=>∃ b dx:Addr,vs=[.ref b]∧H b=some (.ins A.c_Book dx []) ∧
 ∀ (H':Hp) (B':Bd),AtN A H' b B' (dt begun)→B'.L=[]→Fb H H' b→(∀ x∈B'.ls,H x=none)→Q .non H'
theorem sc_Book___init__:FnScope ["self"] ["self"] (defScope s_Book___init__):=⟨rfl,rfl,rfl,by decide +kernel,rfl,by decide +kernel,by decide +kernel⟩
theorem ok_Book___init__ (T:Txt K mg A):FnOk P w K mg base CX0 6 A.f_Book___init__ A.d_Book___init__ ["self"] (sp_Book___init__ A):=by
 refine (T.m_Book___init__.fn).ok sc_Book___init__ (fun vs H Q E h=>?_) (fun cdv AA outer s H vs Q E hr h=>?_)
 ·obtain ⟨b,dx,rfl,_⟩:=h
  rfl
 ·obtain ⟨b,dx,rfl,hb,k⟩:=h
  refine ⟨_,(pss_one (ps_expr (pe_meth0 (pv 0) T.cl_Book T.m_Book_begin.me (ok_Book_begin T) (hr.mono (by decide)) T.m_Book_begin.bi .nil pass0))),?_⟩
  have hF:Fill H b A.c_Book K_Book []:=⟨dx,.inl hb⟩
  refine ⟨_,rfl,b,dx,_,rfl,hb,rfl,b,rfl,hF,fun r H' B' R e _ _ F hl=>k H' B' R e F hl⟩
end
end Bk
namespace Bk
open PySem L2
open Sh28 (State nodeAt depthOf child up under wayUp pathOf findWay begun Piece does num isWho own ownBytes below sumOf)
section
variable {A:Adr}{H H':Hp}{b:Addr}{B:Bd}{s:State}
theorem slN (n:Nat) (h:n≤1000:=by decide):n≤sizeLine:=by have:=PySem.sizeLine_eq;omega
theorem al {a:Addr}{o:HO} (h:H a=none):∀ x,H x≠none→upd H a o x=H x:=fun x hx=>upd_ne fun e=>hx (by rw [e];exact h)
theorem kt {H1 H2:Hp} (h:∀ x,H x≠none→H1 x=H x) (h':∀ x,H1 x≠none→H2 x=H1 x):∀ x,H x≠none→H2 x=H x:=fun x hx=>by rw [h' x (by rw [h x hx];exact hx),h x hx]
theorem kb {H1:Hp} (h:∀ x,H x≠none→H1 x=H x) {r:Addr} (hr:H1 r=none):H r=none:=by
 cases e:H r with
 | none=>rfl
 | some u=>rw [h r (by rw [e];simp),e] at hr;cases hr
theorem ks {H1:Hp} (h:∀ x,H x≠none→H1 x=H x) {r:Addr}{o:HO} (hr:H r=some o):H1 r=some o:=by rw [h r (by rw [hr];simp)];exact hr
theorem Ends.read {c:Sh28.Call}{Q:VK}{vs:List Int}{a:Sh28.Ans} (E:Ends A H b B s c Q) (R:BookAt A H b B s) (h:does s c=(s,a)) (hv:a.v::a.l=vs) {r:Addr} (hr:H r=none) (hr':H' r=some (.lst (vs.map V.int))) (k:∀ x,H x≠none→H' x=H x):Q (.ref r) H' :=
 E r H' B (by rw [h];exact R.kept k) (by unfold ansOf;rw [h,hv];exact hr') (fun x o e=>o.some (by rw [e];exact hr)) (Out.kept k)
theorem Ends.read1 {c:Sh28.Call}{Q:VK}{v:Int}{l:List Int} (E:Ends A H b B s c Q) (R:BookAt A H b B s) (h:does s c=(s,⟨v,l⟩)) (k:∀ x,H x≠none→H' x=H x) (e:l=[]):1≤sizeLine∧∀ r,H' r=none→Q (.ref r) (upd H' r (.lst [.int v])) :=
 ⟨by decide,fun r hr=>E.read R h (by rw [e]) (kb k hr) upd_same (kt k (al hr))⟩
end
section
variable {P:Program}{w:World}{K:PySem.W.Frag}{mg:Str→Option Value}{base:Heap}{A:Adr}
def sp_Book_now (A:Adr):Sp:=fun vs H Q _=>∃ (b:Addr) (B:Bd) (s:State),vs=[.ref b]∧BookAt A H b B s∧Ends A H b B s .now Q
theorem sc_Book_now:FnScope ["self","live"] ["self"] (defScope s_Book_now):=⟨rfl,rfl,rfl,by decide +kernel,rfl,by decide +kernel,by decide +kernel⟩
theorem ok_Book_now (T:Txt K mg A):FnOk P w K mg base CX0 2 A.f_Book_now A.d_Book_now ["self"] (sp_Book_now A):=by
 refine (T.m_Book_now.fn).ok sc_Book_now (fun vs H Q E h=>?_) (fun cdv AA outer s H vs Q E hr h=>?_)
 ·obtain ⟨b,B,s,rfl,_⟩:=h
  rfl
 ·obtain ⟨b,B,s,rfl,R,k⟩:=h
  refine ⟨_,(pss_cons (ps_set (i:=1) sc_Book_now.nd rfl (Or.inl rfl) (pe_lst (pa_cons (pe_meth0 (pe_fld (pv 0) rfl) T.cl_Pieces T.m_Pieces_how_many.me (ok_Pieces_how_many T) (hr.mono (by decide)) T.m_Pieces_how_many.bi .nil pass0) (pa_cons (pe_fld (pv 0) rfl) (pa_cons (pe_fld (pv 0) rfl) (pa_cons (pe_fld (pv 0) rfl) pa_nil))))))
   (pss_one (ps_ret (pe_op op_cat (pe_op op_cat (pe_lst (pa_cons pe_int (pa_cons (pe_fld (pv 0) rfl) pa_nil))) (pv 1)) (pe_lst (pa_cons (pe_fld (pv 0) rfl) (pa_cons (pe_fld (pv 0) rfl) (pa_cons (pe_fld (pv 0) rfl) pa_nil)))))))),?_⟩
  refine ⟨_,rfl,rd_fld T.fd_Book_pieces R.at_.ob rfl (rd_meth R.at_.pcs.ob (by decide +kernel) ⟨B.pc,B.pd,B.pl,B.L,B.xs,rfl,R.at_.pcs,_,rfl,rd_fld T.fd_Book_live_bytes R.at_.ob rfl ⟨_,rfl,rd_fld T.fd_Book_peak_bytes R.at_.ob rfl ⟨_,rfl,rd_fld T.fd_Book_peak_time R.at_.ob rfl ⟨slN 4,fun l1 g1=>?_⟩⟩⟩⟩)⟩
  have e1:=al (o:=.lst [.int (B.L.length:Nat),.int (dt s).lb,.int (dt s).pb,.int (dt s).pt]) g1
  have h1:upd H l1 (.lst [.int (B.L.length:Nat),.int (dt s).lb,.int (dt s).pb,.int (dt s).pt]) l1=_:=upd_same
  generalize upd H l1 (.lst [.int (B.L.length:Nat),.int (dt s).lb,.int (dt s).pb,.int (dt s).pt])=H1 at e1 h1 ⊢
  have R1:=(R.kept e1).at_
  refine ⟨_,rfl,rd_fld T.fd_Book_time R1.ob rfl ⟨slN 2,fun l2 g2=>?_⟩⟩
  have e2:=al (o:=.lst [.int 0,.int (dt s).t]) g2
  have h2:upd H1 l2 (.lst [.int 0,.int (dt s).t]) l2=_:=upd_same
  generalize upd H1 l2 (.lst [.int 0,.int (dt s).t])=H2 at e2 h2 ⊢
  refine ⟨_,rfl,l2,l1,_,_,rfl,rfl,h2,ks e2 h1,slN 6,fun l3 g3=>?_⟩
  have e3:=al (o:=.lst ([.int 0,.int (dt s).t]++[.int (B.L.length:Nat),.int (dt s).lb,.int (dt s).pb,.int (dt s).pt])) g3
  have h3:upd H2 l3 (.lst ([.int 0,.int (dt s).t]++[.int (B.L.length:Nat),.int (dt s).lb,.int (dt s).pb,.int (dt s).pt])) l3=_:=upd_same
  generalize upd H2 l3 (.lst ([.int 0,.int (dt s).t]++[.int (B.L.length:Nat),.int (dt s).lb,.int (dt s).pb,.int (dt s).pt]))=H3 at e3 h3 ⊢
  have k3:=kt e1 (kt e2 e3)
  have R3:=(R.kept k3).at_
  refine ⟨_,rfl,rd_fld T.fd_Book_made_pieces R3.ob rfl ⟨_,rfl,rd_fld T.fd_Book_made_bytes R3.ob rfl ⟨_,rfl,rd_fld T.fd_Book_went_pieces R3.ob rfl ⟨slN 3,fun l4 g4=>?_⟩⟩⟩⟩
  refine ⟨l3,l4,_,_,rfl,rfl,ks (al g4) h3,upd_same,slN 9,fun r g5=>?_⟩
  refine k.read (vs:=[0,s.time,s.live.length,(sumOf s.live:Nat),s.peak,s.peakAt,s.made,s.bytes,s.went]) R rfl rfl (kb (kt k3 (al g4)) g5) ?_ (kt k3 (kt (al g4) (al g5)))
  rw [upd_same,len_live R];rfl
def sp_Book_node (A:Adr):Sp:=fun vs H Q _=>∃ (b:Addr) (B:Bd) (s:State) (n:Nat),vs=[.ref b,.int n]∧BookAt A H b B s∧Ends A H b B s (.node n) Q
theorem sc_Book_node:FnScope ["self","k","node","own"] ["self","k"] (defScope s_Book_node):=⟨rfl,rfl,rfl,by decide +kernel,rfl,by decide +kernel,by decide +kernel⟩
theorem ok_Book_node (T:Txt K mg A):FnOk P w K mg base CX0 2 A.f_Book_node A.d_Book_node ["self","k"] (sp_Book_node A):=by
 refine (T.m_Book_node.fn).ok sc_Book_node (fun vs H Q E h=>?_) (fun cdv AA outer s H vs Q E hr h=>?_)
 ·obtain ⟨b,B,s,n,rfl,_⟩:=h
  rfl
 ·obtain ⟨b,B,s,n,rfl,R,k⟩:=h
  refine ⟨_,(pss_cons (ps_if (pt_not (pt_val (pe_meth (pe_fld (pv 0) rfl) T.cl_Ways T.m_Ways_has.me (ok_Ways_has T) (hr.mono (by decide)) T.m_Ways_has.bi .nil pass0 (pa_cons (pv 1) pa_nil))))
    (pss_one (ps_ret (pe_lst (pa_cons (pe_gint T.g_NOT_THERE) pa_nil))))
    pss_nil)
   (pss_cons (ps_set (i:=2) sc_Book_node.nd rfl (Or.inl rfl) (pe_ix ix_list (pe_fld (pe_fld (pv 0) rfl) rfl) (pv 1) (fun _ _=>rfl)))
   (pss_cons (ps_set (i:=3) sc_Book_node.nd rfl (Or.inl rfl) (pe_lst (pa_cons (pe_fld (pv 2) rfl) (pa_cons (pe_fld (pv 2) rfl) (pa_cons (pe_fld (pv 2) rfl) (pa_cons (pe_fld (pv 2) rfl) (pa_cons (pe_fld (pv 2) rfl) pa_nil)))))))
   (pss_one (ps_ret (pe_op op_cat (pe_op op_cat (pe_lst (pa_cons (pe_fld (pv 2) rfl) (pa_cons (pe_fld (pv 2) rfl) pa_nil))) (pv 3)) (pe_lst (pa_cons (pe_fld (pv 2) rfl) (pa_cons (pe_fld (pv 2) rfl) (pa_cons (pe_fld (pv 2) rfl) pa_nil)))))))))),?_⟩
  refine ⟨_,rfl,rd_fld T.fd_Book_ways R.at_.ob rfl (rd_meth R.at_.ways.ob (by decide +kernel) ⟨_,rfl,B.wy,B.nl,B.sd,B.as,s,numOf s,n,rfl,R.at_.ways,_,rfl,ite2 (fun c=>?_) (fun c=>?_)⟩)⟩
  ·rw [Bool.not_eq_true',decide_eq_false_iff_not] at c
   exact k.same R (congrArg (Prod.mk s) (if_pos (by omega)))
  rw [Bool.not_eq_true',decide_eq_false_iff_not,Classical.not_not] at c
  have hn:n<s.nodes.length:=by omega
  obtain ⟨a,ha,_,ho⟩:=R.at_.ways.get hn
  have hd:does s (.node n)=(s,⟨((nodeAt s n).above:Nat),Sh28.ints [(nodeAt s n).who,(nodeAt s n).made,(nodeAt s n).bytes,(own s n).length,ownBytes s n,(nodeAt s n).peak,(below s n).length,sumOf (below s n),amOf s n]⟩):=congrArg (Prod.mk s) (if_neg (by omega))
  refine ⟨_,rfl,rd_fld T.fd_Book_ways R.at_.ob rfl (rd_fld T.fd_Ways_nodes R.at_.ways.ob rfl ⟨_,rfl,B.nl,_,_,_,rfl,rfl,SqL.of R.at_.ways.lst,atI_nat (j:=n) (v:=.ref a) (by rw [List.getElem?_map,ha];rfl),?_⟩)⟩
  refine ⟨_,rfl,rd_fld T.fd_Node_made_pieces ho rfl ⟨_,rfl,rd_fld T.fd_Node_made_bytes ho rfl ⟨_,rfl,rd_fld T.fd_Node_live_pieces ho rfl ⟨_,rfl,rd_fld T.fd_Node_live_bytes ho rfl ⟨_,rfl,rd_fld T.fd_Node_peak_bytes ho rfl ⟨slN 5,fun l1 g1=>?_⟩⟩⟩⟩⟩⟩
  have e1:=al (o:=.lst [.int ((dt s).f n).mp,.int ((dt s).f n).mb,.int ((dt s).f n).lp,.int ((dt s).f n).lb,.int ((dt s).f n).pk]) g1
  have h1:upd H l1 (.lst [.int ((dt s).f n).mp,.int ((dt s).f n).mb,.int ((dt s).f n).lp,.int ((dt s).f n).lb,.int ((dt s).f n).pk]) l1=_:=upd_same
  generalize upd H l1 (.lst [.int ((dt s).f n).mp,.int ((dt s).f n).mb,.int ((dt s).f n).lp,.int ((dt s).f n).lb,.int ((dt s).f n).pk])=H1 at e1 h1 ⊢
  have o1:=ho.same (e1 a (ob_some ho))
  refine ⟨_,rfl,rd_fld T.fd_Node_above o1 rfl ⟨_,rfl,rd_fld T.fd_Node_who o1 rfl ⟨slN 2,fun l2 g2=>?_⟩⟩⟩
  have e2:=al (o:=.lst [.int (nodeAt (dt s).s n).above,.int (nodeAt (dt s).s n).who]) g2
  have h2:upd H1 l2 (.lst [.int (nodeAt (dt s).s n).above,.int (nodeAt (dt s).s n).who]) l2=_:=upd_same
  generalize upd H1 l2 (.lst [.int (nodeAt (dt s).s n).above,.int (nodeAt (dt s).s n).who])=H2 at e2 h2 ⊢
  refine ⟨_,rfl,l2,l1,_,_,rfl,rfl,h2,ks e2 h1,slN 7,fun l3 g3=>?_⟩
  have e3:=al (o:=.lst ([.int (nodeAt (dt s).s n).above,.int (nodeAt (dt s).s n).who]++[.int ((dt s).f n).mp,.int ((dt s).f n).mb,.int ((dt s).f n).lp,.int ((dt s).f n).lb,.int ((dt s).f n).pk])) g3
  have h3:upd H2 l3 (.lst ([.int (nodeAt (dt s).s n).above,.int (nodeAt (dt s).s n).who]++[.int ((dt s).f n).mp,.int ((dt s).f n).mb,.int ((dt s).f n).lp,.int ((dt s).f n).lb,.int ((dt s).f n).pk])) l3=_:=upd_same
  generalize upd H2 l3 (.lst ([.int (nodeAt (dt s).s n).above,.int (nodeAt (dt s).s n).who]++[.int ((dt s).f n).mp,.int ((dt s).f n).mb,.int ((dt s).f n).lp,.int ((dt s).f n).lb,.int ((dt s).f n).pk]))=H3 at e3 h3 ⊢
  have k3:=kt e1 (kt e2 e3)
  have o3:=ho.same (k3 a (ob_some ho))
  refine ⟨_,rfl,rd_fld T.fd_Node_all_live_pieces o3 rfl ⟨_,rfl,rd_fld T.fd_Node_all_live_bytes o3 rfl ⟨_,rfl,rd_fld T.fd_Node_all_made_bytes o3 rfl ⟨slN 3,fun l4 g4=>?_⟩⟩⟩⟩
  refine ⟨l3,l4,_,_,rfl,rfl,ks (al g4) h3,upd_same,slN 10,fun r g5=>?_⟩
  exact k.read R hd rfl (kb (kt k3 (al g4)) g5) upd_same (kt k3 (kt (al g4) (al g5)))
def sp_Book_path (A:Adr):Sp:=fun vs H Q _=>∃ (b:Addr) (B:Bd) (s:State) (n:Nat),vs=[.ref b,.int n]∧BookAt A H b B s∧Ends A H b B s (.path n) Q
theorem sc_Book_path:FnScope ["self","k","whos"] ["self","k"] (defScope s_Book_path):=⟨rfl,rfl,rfl,by decide +kernel,rfl,by decide +kernel,by decide +kernel⟩
theorem ok_Book_path (T:Txt K mg A):FnOk P w K mg base CX0 3 A.f_Book_path A.d_Book_path ["self","k"] (sp_Book_path A):=by
 refine (T.m_Book_path.fn).ok sc_Book_path (fun vs H Q E h=>?_) (fun cdv AA outer s H vs Q E hr h=>?_)
 ·obtain ⟨b,B,s,n,rfl,_⟩:=h
  rfl
 ·obtain ⟨b,B,s,n,rfl,R,k⟩:=h
  refine ⟨_,(pss_cons (ps_if (pt_not (pt_val (pe_meth (pe_fld (pv 0) rfl) T.cl_Ways T.m_Ways_has.me (ok_Ways_has T) (hr.mono (by decide)) T.m_Ways_has.bi .nil pass0 (pa_cons (pv 1) pa_nil))))
    (pss_one (ps_ret (pe_lst (pa_cons (pe_gint T.g_NOT_THERE) pa_nil))))
    pss_nil)
   (pss_cons (ps_set (i:=2) sc_Book_path.nd rfl (Or.inl rfl) (pe_meth (pe_fld (pv 0) rfl) T.cl_Ways T.m_Ways_whos.me (ok_Ways_whos T) (hr.mono (by decide)) T.m_Ways_whos.bi .nil pass0 (pa_cons (pv 1) pa_nil)))
   (pss_one (ps_ret (pe_op op_cat (pe_lst (pa_cons (pe_callB call_len_seq (by rfl) T.b_len PySem.boot_len (pa_cons (pv 2) pa_nil)) pa_nil)) (pv 2)))))),?_⟩
  have W:=R.good.wf
  refine ⟨_,rfl,rd_fld T.fd_Book_ways R.at_.ob rfl (rd_meth R.at_.ways.ob (by decide +kernel) ⟨_,rfl,B.wy,B.nl,B.sd,B.as,s,numOf s,n,rfl,R.at_.ways,_,rfl,ite2 (fun c=>?_) (fun c=>?_)⟩)⟩
  ·rw [Bool.not_eq_true',decide_eq_false_iff_not] at c
   exact k.same R (congrArg (Prod.mk s) (if_pos (by omega)))
  rw [Bool.not_eq_true',decide_eq_false_iff_not,Classical.not_not] at c
  have hn:n<s.nodes.length:=by omega
  have hd:does s (.path n)=(s,⟨((depthOf s n:Nat):Int),Sh28.ints (pathOf s n)⟩):=congrArg (Prod.mk s) (if_neg (by omega))
  have hpl:(pathOf s n).length=depthOf s n:=by unfold pathOf depthOf;rw [List.length_reverse]
  have hdl:=depth_le (s:=s) n
  have hsl:=PySem.sizeLine_eq
  refine ⟨_,rfl,rd_fld T.fd_Book_ways R.at_.ob rfl (rd_meth R.at_.ways.ob (by decide +kernel) ⟨_,rfl,B.wy,B.nl,B.sd,B.as,s,numOf s,n,rfl,R.at_.ways,W,hn,fun l1 H1 g1 h1 e1=>?_⟩)⟩
  refine ⟨_,rfl,l1,_,rfl,.inl (SqL.of h1),slN 1,fun l2 g2=>⟨_,rfl,?_⟩⟩
  refine ⟨l2,l1,_,_,rfl,rfl,upd_same,ks (al g2) h1,by rw [List.length_map];show 1+_≤_;omega,fun r g3=>?_⟩
  refine k.read R hd rfl (kb (kt e1 (al g2)) g3) ?_ (kt e1 (kt (al g2) (al g3)))
  rw [upd_same,List.length_map,hpl]
  show some (HO.lst (V.int (depthOf s n:Nat)::(pathOf s n).map fun (j:Nat)=>V.int (j:Int)))=some (HO.lst (V.int (depthOf s n:Nat)::(Sh28.ints (pathOf s n)).map V.int))
  unfold Sh28.ints
  rw [List.map_map];rfl
def sp_Book_find (A:Adr):Sp:=fun vs H Q _=>∃ (b l:Addr) (B:Bd) (s:State) (ws:List Nat),vs=[.ref b,.ref l]∧BookAt A H b B s∧H l=some (.lst (ws.map fun (n:Nat)=>V.int (n:Int)))∧ws.length≤16777216∧Ends A H b B s (.find ws) Q
theorem sc_Book_find:FnScope ["self","way","who"] ["self","way"] (defScope s_Book_find):=⟨rfl,rfl,rfl,by decide +kernel,rfl,by decide +kernel,by decide +kernel⟩
theorem ok_Book_find (T:Txt K mg A):FnOk P w K mg base CX0 2 A.f_Book_find A.d_Book_find ["self","way"] (sp_Book_find A):=by
 refine (T.m_Book_find.fn).ok sc_Book_find (fun vs H Q E h=>?_) (fun cdv AA outer s H vs Q E hr h=>?_)
 ·obtain ⟨b,l,B,s,ws,rfl,_⟩:=h
  rfl
 ·obtain ⟨b,l,B,s,ws,rfl,R,hl,hwl,k⟩:=h
  refine ⟨_,(pss_cons (ps_if (pw_or (pt_not (pt_val (pe_call (ok_within T) (hr.mono (by decide)) (by rfl) T.u_within.mg T.u_within.kp T.u_within.bi .nil pass0 (pa_cons (pe_callB call_len_seq (by rfl) T.b_len PySem.boot_len (pa_cons (pv 1) pa_nil)) (pa_cons (pe_gint T.g_MOST_DEPTH) pa_nil))))) (pw_or1 (pt_not (pt_val (pe_callB (cr_all rfl) (by rfl) T.b_all boot_all (pa_cons (pe_lc (own:=[("who",2)]) (g:=(gName 2)) (te:=(tCall (sp_within A) [] E0 (tCons (tVar 2) (tCons (tC (.int (65535))) tNil)))) rfl sc_Book_find.nd (pi_list (pv 1)) ⟨rfl,by decide +kernel,(show ∀ p∈([("who",2)]:List (Str × Nat)),(["self","way","who"]:List Str)[p.2]?=some p.1 by decide +kernel),(show ∀ y∈(_:List (Str × NameKind)),y.2=NameKind.free→(defScope s_Book_find).names.lookup y.1=some NameKind.cell∨(defScope s_Book_find).names.lookup y.1=some NameKind.free by decide +kernel),(show ∀ y∈(_:List (Str × NameKind)),y.2=NameKind.local∨y.2=NameKind.cell→y.1∈([("who",2)]:List (Str × Nat)).map (·.1)∨y.1∉(["self","way","who"]:List Str) by decide +kernel)⟩ (fun _ _ _ _ _=>(pg_name (i:=2) sc_Book_find.nd rfl (Or.inl rfl))) (fun _ _ _ _ _=>pts_nil) (fun _ _ _ _ _=>(pe_call (ok_within T) (hr.mono (by decide)) (by rfl) T.u_within.mg T.u_within.kp T.u_within.bi .nil pass0 (pa_cons (pv 2) (pa_cons (pe_gint T.g_MOST_WHO) pa_nil))))) pa_nil)))))).pt
    (pss_one (ps_ret (pe_lst (pa_cons (pe_gint T.g_OUT_OF_RANGE) pa_nil))))
    pss_nil)
   (pss_one (ps_ret (pe_lst (pa_cons (pe_meth (pe_fld (pv 0) rfl) T.cl_Ways T.m_Ways_find.me (ok_Ways_find T) (hr.mono (by decide)) T.m_Ways_find.bi .nil pass0 (pa_cons (pv 1) pa_nil)) pa_nil))))),?_⟩
  have hsl:=PySem.sizeLine_eq
  have hml:(ws.map fun (n:Nat)=>V.int (n:Int)).length=ws.length:=List.length_map ..
  refine ⟨_,rfl,l,_,rfl,.inl (SqL.of hl),_,64,rfl,_,rfl,ite2 (fun c=>iteT (by first | exact c | rfl) ?_) (fun c=>?_)⟩
  ·rw [hml] at c
   have c:=nwT c
   exact k.same R (congrArg (Prod.mk s) (if_pos (by rw [decide_eq_false (show ¬ ws.length≤Sh28.DEEP by show ¬ ws.length≤64;omega)];rfl)))
  rw [hml] at c
  have c1:=nwF c
  have hle:ws.length≤Sh28.DEEP:=by show _≤64;omega
  refine ⟨_,rfl,l,rfl,⟨_,SqL.of hl⟩,fun D hD=>?_⟩
  have nlD:l≠D:=ne_of_none hl hD
  refine lc_list (xs:=ws.map fun (n:Nat)=>V.int (n:Int)) (fun i H'=>(∀ x,H x≠none→H' x=H x)∧H' D=some (.lst (((ws.take i).map fun n=>isWho n).map V.bl))) ?_ ?_ ?_ ?_
  ·exact ⟨fun x hx=>upd_ne fun e=>hx (by rw [e];exact hD),upd_same⟩
  ·rintro i H' _ ⟨h,_⟩
   exact SqL.of (ks h hl)
  ·rintro i x H' hx ⟨q1,q2⟩
   rw [List.getElem?_map] at hx
   obtain ⟨n,hn,rfl⟩:=Option.map_eq_some_iff.mp hx
   have hi:i<ws.length:=(List.getElem?_eq_some_iff.mp hn).1
   refine ⟨rfl,_,rfl,n,65535,rfl,_,q2,by rw [List.length_map,List.length_map,List.length_take];omega,fun x hx=>?_,?_⟩
   ·rw [upd_ne (fun e=>hx (by rw [e];exact hD)),q1 x hx]
   ·rw [upd_same,List.take_add_one,hn,List.map_append,List.map_append]
    have:decide (0≤(n:Int)∧(n:Int)≤65535)=isWho n:=by unfold isWho;rw [Bool.eq_iff_iff,decide_eq_true_eq,decide_eq_true_eq];omega
    rw [this];rfl
  ·rintro H1 ⟨e1,h1⟩
   rw [hml,List.take_length] at h1
   refine ⟨D,_,rfl,SqL.of h1,_,rfl,?_⟩
   have hall:(ws.map fun n=>isWho n).all id=ws.all isWho:=by rw [List.all_map];rfl
   rw [hall]
   refine ite2 (fun c=>?_) (fun c=>?_)
   ·rw [Bool.not_eq_true'] at c
    exact k.read1 R (congrArg (Prod.mk s) (if_pos (by rw [c,Bool.and_false]))) e1 rfl
   ·rw [Bool.not_eq_true',Bool.not_eq_false] at c
    have hd:∀ x,findWay s ws=x→does s (.find ws)=(s,match x with | some k=>Sh28.nat k | none=>num (-4)):=fun x hx=>by
     subst hx
     exact congrArg (Prod.mk s) (if_neg (by rw [c,decide_eq_true hle];decide))
    have R1:=R.kept e1
    refine ⟨_,rfl,rd_fld T.fd_Book_ways R1.at_.ob rfl (rd_meth R1.at_.ways.ob (by decide +kernel) ⟨_,rfl,B.wy,B.nl,B.sd,l,B.as,s,numOf s,ws,rfl,R1.at_.ways,ks e1 hl,fun H2 e2=>?_⟩)⟩
    cases hw:findWay s ws with
    | some j=>exact k.read1 R (hd _ hw) (kt e1 e2) rfl
    | none=>exact k.read1 R (hd _ hw) (kt e1 e2) rfl
theorem flat_pairs {α:Type} (l:List α) (f g:α→Int):(zipRows (l.map f) (l.map g)).flatten=l.flatMap fun x=>[f x,g x]:=by
 unfold zipRows
 induction l with
 | nil=>rfl
 | cons x l ih=>rw [List.map_cons,List.map_cons,List.zip_cons_cons,List.map_cons,List.flatten_cons,ih,List.flatMap_cons]
theorem ints_flat {α:Type} (l:List α) (f g:α→Nat):Sh28.ints (l.flatMap fun x=>[f x,g x])=l.flatMap fun x=>[((f x:Nat):Int),((g x:Nat):Int)]:=by
 unfold Sh28.ints
 rw [List.map_flatMap];rfl
theorem zip_len2 (a b:List Int) (h:a.length=b.length):(zipRows a b).flatten.length=2 * a.length:=by
 unfold zipRows
 induction a generalizing b with
 | nil=>rfl
 | cons x a ih =>
  cases b with
  | nil=>simp at h
  | cons y b =>
   rw [List.zip_cons_cons,List.map_cons,List.flatten_cons,List.length_append,ih b (by simpa using h)]
   show 2+_=_
   rw [List.length_cons];omega
def sp_Book_sizes (A:Adr):Sp:=fun vs H Q _=>∃ (b:Addr) (B:Bd) (s:State),vs=[.ref b]∧BookAt A H b B s∧Ends A H b B s .sizes Q
theorem sc_Book_sizes:FnScope ["self"] ["self"] (defScope s_Book_sizes):=⟨rfl,rfl,rfl,by decide +kernel,rfl,by decide +kernel,by decide +kernel⟩
theorem ok_Book_sizes (T:Txt K mg A):FnOk P w K mg base CX0 2 A.f_Book_sizes A.d_Book_sizes ["self"] (sp_Book_sizes A):=by
 refine (T.m_Book_sizes.fn).ok sc_Book_sizes (fun vs H Q E h=>?_) (fun cdv AA outer s H vs Q E hr h=>?_)
 ·obtain ⟨b,B,s,rfl,_⟩:=h
  rfl
 ·obtain ⟨b,B,s,rfl,R,k⟩:=h
  refine ⟨_,(pss_one (ps_ret (pe_op op_cat (pe_lst (pa_cons pe_int pa_nil)) (pe_call (ok_joined T) (hr.mono (by decide)) (by rfl) T.u_joined.mg T.u_joined.kp T.u_joined.bi .nil pass0 (pa_cons (pe_meth0 (pe_fld (pv 0) rfl) T.cl_Rows T.m_Rows_by_size.me (ok_Rows_by_size T) (hr.mono (by decide)) T.m_Rows_by_size.bi .nil pass0) pa_nil))))),?_⟩
  have hsl:=PySem.sizeLine_eq
  refine ⟨slN 1,fun l1 g1=>?_⟩
  have R1:=(R.kept (al (o:=.lst [.int 0]) g1)).at_
  refine ⟨_,rfl,rd_fld T.fd_Book_rows R1.ob rfl (rd_meth R1.rows.ob (by decide +kernel) ⟨B.rw,B.l1,B.l2,B.l3,B.l4,_,_,_,_,rfl,R1.rows,fun l2 H2 g2 t2 e2=>?_⟩)⟩
  have hn1:=R1.rows.n1
  have hn2:=R1.rows.n2
  have hz:=zip_len2 _ _ (hn1.trans hn2.symm)
  refine ⟨l2,_,rfl,t2,by omega,fun l3 H3 g3 h3 e3=>?_⟩
  refine ⟨l1,l3,_,_,rfl,rfl,ks (kt e2 e3) upd_same,h3,by rw [List.length_map];show 1+_≤_;omega,fun r g4=>?_⟩
  have k3:∀ x,H x≠none→H3 x=H x:=kt (al g1) (kt e2 e3)
  refine k.read R rfl rfl (kb k3 g4) ?_ (kt k3 (al g4))
  rw [upd_same]
  have e:(zipRows (dt s).ra (dt s).rb).flatten=Sh28.ints ((List.range Sh28.CLASSES).flatMap fun i=>[s.sizes.getD i 0,(s.live.filter fun p=>Sh28.classOf p.size == i).length]):=by
   rw [ints_flat]
   have hra:(dt s).ra=(List.range 124).map fun i=>((s.sizes.getD i 0:Nat):Int):=by
    show Sh28.ints s.sizes=_
    unfold Sh28.ints
    refine List.ext_getElem? fun i=>?_
    rw [List.getElem?_map,List.getElem?_map]
    by_cases hi:i<124
    ·rw [List.getElem?_range hi]
     show _=some (((s.sizes.getD i 0:Nat):Int))
     rw [List.getD_eq_getElem?_getD,List.getElem?_eq_getElem (by rw [R.good.sz];exact hi)];rfl
    ·rw [List.getElem?_eq_none (by rw [R.good.sz];omega),List.getElem?_eq_none (by rw [List.length_range];omega)];rfl
   rw [hra]
   exact flat_pairs (List.range 124) (fun i=>((s.sizes.getD i 0:Nat):Int)) (fun i=>((cls i s.live:Nat):Int))
  rw [e];rfl
def sp_Book_ages (A:Adr):Sp:=fun vs H Q _=>∃ (b:Addr) (B:Bd) (s:State),vs=[.ref b]∧BookAt A H b B s∧Ends A H b B s .ages Q
theorem sc_Book_ages:FnScope ["self"] ["self"] (defScope s_Book_ages):=⟨rfl,rfl,rfl,by decide +kernel,rfl,by decide +kernel,by decide +kernel⟩
theorem ok_Book_ages (T:Txt K mg A):FnOk P w K mg base CX0 2 A.f_Book_ages A.d_Book_ages ["self"] (sp_Book_ages A):=by
 refine (T.m_Book_ages.fn).ok sc_Book_ages (fun vs H Q E h=>?_) (fun cdv AA outer s H vs Q E hr h=>?_)
 ·obtain ⟨b,B,s,rfl,_⟩:=h
  rfl
 ·obtain ⟨b,B,s,rfl,R,k⟩:=h
  refine ⟨_,(pss_one (ps_ret (pe_op op_cat (pe_lst (pa_cons pe_int pa_nil)) (pe_call (ok_joined T) (hr.mono (by decide)) (by rfl) T.u_joined.mg T.u_joined.kp T.u_joined.bi .nil pass0 (pa_cons (pe_meth0 (pe_fld (pv 0) rfl) T.cl_Rows T.m_Rows_by_age.me (ok_Rows_by_age T) (hr.mono (by decide)) T.m_Rows_by_age.bi .nil pass0) pa_nil))))),?_⟩
  have hsl:=PySem.sizeLine_eq
  refine ⟨slN 1,fun l1 g1=>?_⟩
  have R1:=(R.kept (al (o:=.lst [.int 0]) g1)).at_
  refine ⟨_,rfl,rd_fld T.fd_Book_rows R1.ob rfl (rd_meth R1.rows.ob (by decide +kernel) ⟨B.rw,B.l1,B.l2,B.l3,B.l4,_,_,_,_,rfl,R1.rows,fun l2 H2 g2 t2 e2=>?_⟩)⟩
  have hn1:=R1.rows.n3
  have hn2:=R1.rows.n4
  have hz:=zip_len2 _ _ (hn1.trans hn2.symm)
  refine ⟨l2,_,rfl,t2,by omega,fun l3 H3 g3 h3 e3=>?_⟩
  refine ⟨l1,l3,_,_,rfl,rfl,ks (kt e2 e3) upd_same,h3,by rw [List.length_map];show 1+_≤_;omega,fun r g4=>?_⟩
  have k3:∀ x,H x≠none→H3 x=H x:=kt (al g1) (kt e2 e3)
  refine k.read R rfl rfl (kb k3 g4) ?_ (kt k3 (al g4))
  rw [upd_same]
  have e:(zipRows (dt s).rc (dt s).rd).flatten=Sh28.ints (s.ages.flatMap fun x=>[x.1,x.2]):=by
   rw [ints_flat]
   exact flat_pairs s.ages (fun x=>((x.1:Nat):Int)) (fun x=>((x.2:Nat):Int))
  rw [e];rfl
end
end Bk
namespace Bk
open PySem L2
open Sh28
section
variable {s:State}
theorem nmBy_num (s:State) (b k:Nat):nmBy (numOf s k) b=((much s b k:Nat):Int):=by
 unfold nmBy much
 by_cases h0:b=0
 ·rw [if_pos h0,if_pos h0];rfl
 ·rw [if_neg h0,if_neg h0]
  by_cases h1:b=1
  ·rw [if_pos h1,if_pos h1];rfl
  ·rw [if_neg h1,if_neg h1]
   by_cases h2:b=2
   ·rw [if_pos h2,if_pos h2];rfl
   ·rw [if_neg h2,if_neg h2];rfl
def topX (s:State) (b:Nat):List (Nat × Nat):=((List.range s.nodes.length).map fun k=>(k,much s b k)).filter fun x=>x.2 != 0
theorem sumRows_top (s:State) (b:Nat):sumRows (numOf s) b s.nodes.length=(topX s b).map pairRow:=by
 unfold sumRows topX
 rw [List.filter_map,List.map_map]
 have:(List.range s.nodes.length).filter (fun k=>decide (0<nmBy (numOf s k) b))=(List.range s.nodes.length).filter ((fun x:Nat × Nat=>x.2 != 0) ∘ fun k=>(k,much s b k)) :=
  List.filter_congr fun k _=>by
   rw [nmBy_num,Bool.eq_iff_iff,decide_eq_true_eq]
   show _↔(much s b k != 0)=true
   rw [bne_iff_ne];omega
 rw [this]
 refine List.map_congr_left fun k _=>?_
 rw [nmBy_num];rfl
def topLtB (a b:Nat × Nat):Bool:=decide (b.2<a.2) || (a.2 == b.2 && decide (a.1<b.1))
theorem topLtB_iff (a b:Nat × Nat):topLtB a b=true↔b.2<a.2∨(a.2=b.2∧a.1<b.1):=by unfold topLtB;simp
theorem top_rows (s:State) (b k:Nat) {R:List (List Int)} (hp:R.Perm (sumRows (numOf s) b s.nodes.length)) (hs:R.Pairwise topLt):R.take k=(tops s b k).map pairRow:=by
 have e:R=(sortBy topLtB (topX s b)).map pairRow:=by
  rw [sumRows_top] at hp
  refine sorted_unique (lt:=topLt) (fun x y h1 h2=>?_) (hp.trans ((sortBy_perm topLtB _).symm.map pairRow)) hs ?_
  ·unfold topLt at h1 h2;omega
  ·rw [List.pairwise_map]
   refine (sortBy_pw (lt:=topLtB) (fun x y z h1 h2=>?_) ?_).imp fun {x y} h=>?_
   ·rw [topLtB_iff] at h1 h2 ⊢;omega
   ·unfold topX
    refine List.Pairwise.filter _ ?_
    rw [List.pairwise_map]
    refine (List.pairwise_lt_range (n:=s.nodes.length)).imp fun {x y} h=>?_
    rw [topLtB_iff,topLtB_iff]
    show _∨_
    simp only
    omega
   ·rw [topLtB_iff] at h
    unfold topLt pairRow
    show ((y.2:Int)<(x.2:Int))∨((x.2:Int)=(y.2:Int)∧(x.1:Int)<(y.1:Int))
    omega
 rw [e,← List.map_take];rfl
theorem tops_len (s:State) (b k:Nat):(tops s b k).length≤k:=by unfold tops;rw [List.length_take];exact Nat.min_le_left _ _
theorem flat_pair (l:List (Nat × Nat)):(l.map pairRow).flatten=Sh28.ints (l.flatMap fun x=>[x.1,x.2]):=by
 unfold Sh28.ints
 rw [List.map_flatMap,List.flatMap_def];rfl
theorem flat_len {α:Type}{n:Nat}:∀ (l:List α) (f:α→List Int),(∀ x,(f x).length=n)→(l.map f).flatten.length=n * l.length
 | [],f,h=>rfl
 | a::l,f,h=>by rw [List.map_cons,List.flatten_cons,List.length_append,h,flat_len l f h,List.length_cons,Nat.mul_succ];omega
theorem live_marked (s:State):liveRows (numOf s) s.nodes.length=(marked s).map pairRow:=by
 unfold liveRows marked
 rw [List.map_map];rfl
theorem zip_range {α:Type} (g:Nat→α):∀ (n:Nat),((List.range n).map g).zipIdx=(List.range n).map fun k=>(g k,k):=fun n=>by
 refine List.ext_getElem? fun i=>?_
 rw [List.getElem?_zipIdx,List.getElem?_map,List.getElem?_map]
 by_cases h:i<n
 ·rw [List.getElem?_range h];simp
 ·rw [List.getElem?_eq_none (l:=List.range n) (by simp;omega)];rfl
def triple (x:Nat × Int × Int):List Int:=[(x.1:Int),x.2.1,x.2.2]
theorem chg_more (s:State) (o:List (Nat × Nat)):chgRows (numOf s) (o.map pairRow) s.nodes.length=(more s o).map triple:=by
 unfold chgRows more marked
 rw [zip_range,List.map_map,List.filter_map,List.map_map]
 have ho:∀ k,(o.map pairRow).getD k [0,0]=pairRow (o.getD k (0,0)):=fun k=>by
  rw [List.getD_eq_getElem?_getD,List.getD_eq_getElem?_getD,List.getElem?_map]
  cases o[k]?<;>rfl
 have hP:∀ k,chgP (numOf s) (o.map pairRow) k=((own s k).length:Int) - ((o.getD k (0,0)).1:Int):=fun k=>by unfold chgP;rw [ho];rfl
 have hB:∀ k,chgB (numOf s) (o.map pairRow) k=(ownBytes s k:Int) - ((o.getD k (0,0)).2:Int):=fun k=>by unfold chgB;rw [ho];rfl
 have e:(List.range s.nodes.length).filter (fun k=>decide (chgP (numOf s) (o.map pairRow) k≠0∨chgB (numOf s) (o.map pairRow) k≠0))=(List.range s.nodes.length).filter ((fun x:Nat × Int × Int=>x.2.1 != 0 || x.2.2 != 0) ∘ ((fun x:(Nat × Nat) × Nat=>(x.2,(x.1.1:Int) - ((o.getD x.2 (0,0)).1:Int),(x.1.2:Int) - ((o.getD x.2 (0,0)).2:Int))) ∘ fun k=>(((own s k).length,ownBytes s k),k))) :=
  List.filter_congr fun k _=>by
   rw [hP,hB,Bool.eq_iff_iff,decide_eq_true_eq]
   show _↔((((own s k).length:Int) - ((o.getD k (0,0)).1:Int)) != 0 || ((ownBytes s k:Int) - ((o.getD k (0,0)).2:Int)) != 0)=true
   rw [Bool.or_eq_true,bne_iff_ne,bne_iff_ne]
 rw [e]
 refine List.map_congr_left fun k _=>?_
 rw [hP,hB];rfl
theorem more_len (s:State) (o:List (Nat × Nat)):(more s o).length≤s.nodes.length:=by
 unfold more
 refine Nat.le_trans (List.length_filter_le _ _) ?_
 rw [List.length_map,List.length_zipIdx]
 unfold marked
 rw [List.length_map,List.length_range];exact Nat.le_refl _
theorem flat_triple (l:List (Nat × Int × Int)):(l.map triple).flatten=l.flatMap fun x=>[(x.1:Int),x.2.1,x.2.2]:=by rw [List.flatMap_def];rfl
theorem nodes_zip (s:State):s.nodes.zipIdx=(List.range s.nodes.length).map fun k=>(nodeAt s k,k):=by
 have h:=nodes_map s id
 rw [List.map_id] at h
 conv=>lhs;rw [h]
 exact zip_range _ _
theorem picked_rows {s:State}{ms:List Nat} (h1:ms.Pairwise (·<·)) (h2:∀ k,k∈ms↔(nodeAt s k).picks≠0):(s.nodes.zipIdx.filter fun x=>x.1.picks != 0)=ms.map fun k=>(nodeAt s k,k):=by
 rw [nodes_zip,List.filter_map]
 congr 1
 have hw:((List.range s.nodes.length).filter ((fun x:Node × Nat=>x.1.picks != 0) ∘ fun k=>(nodeAt s k,k))).Pairwise (·<·):=List.Pairwise.filter _ List.pairwise_lt_range
 refine sorted_unique (lt:=(·<·)) (fun a b=>by omega) ((List.perm_ext_iff_of_nodup (hw.imp fun h=>Nat.ne_of_lt h) (h1.imp fun h=>Nat.ne_of_lt h)).mpr fun k=>?_) hw h1
 rw [List.mem_filter,List.mem_range,h2]
 show _∧((nodeAt s k).picks != 0)=true↔_
 rw [bne_iff_ne]
 constructor
 ·exact fun h=>h.2
 ·intro h
  refine ⟨?_,h⟩
  by_cases hk:k<s.nodes.length
  ·exact hk
  ·refine absurd ?_ h
   unfold nodeAt
   rw [List.getD_eq_getElem?_getD,List.getElem?_eq_none (by omega)];rfl
theorem holds_one {l:List Piece} (hd:Dis l) {p q:Piece} (hp:p∈l) (hq:q∈l) {b:Nat} (h1:holdsByte p b=true) (h2:holdsByte q b=true):p=q:=by
 unfold holdsByte at h1 h2
 rw [Bool.and_eq_true,decide_eq_true_eq,decide_eq_true_eq] at h1 h2
 unfold Dis at hd
 by_cases e:p=q
 ·exact e
 ·have:Apart p q:=by
   rcases List.pairwise_iff_getElem.mp hd with hd'
   obtain ⟨i,hi,rfl⟩:=List.getElem_of_mem hp
   obtain ⟨j,hj,rfl⟩:=List.getElem_of_mem hq
   rcases Nat.lt_trichotomy i j with h | h | h
   ·exact hd' i j hi hj h
   ·subst h;exact absurd rfl e
   ·exact (hd' j i hj hi h).symm
  unfold Apart at this
  omega
end
end Bk
namespace Bk
open PySem L2
open Sh28 (State nodeAt depthOf child up under wayUp pathOf findWay begun Piece does num isWho isPlace isWord tops marked more holdsByte)
section
variable {P:Program}{w:World}{K:PySem.W.Frag}{mg:Str→Option Value}{base:Heap}{A:Adr}
def sp_Book_top (A:Adr):Sp:=fun vs H Q _=>∃ (b:Addr) (B:Bd) (s:State) (y n:Nat),vs=[.ref b,.int y,.int n]∧BookAt A H b B s∧Ends A H b B s (.top y n) Q
theorem sc_Book_top:FnScope ["self","by","k"] ["self","by","k"] (defScope s_Book_top):=⟨rfl,rfl,rfl,by decide +kernel,rfl,by decide +kernel,by decide +kernel⟩
theorem ok_Book_top (T:Txt K mg A):FnOk P w K mg base CX0 4 A.f_Book_top A.d_Book_top ["self","by","k"] (sp_Book_top A):=by
 refine (T.m_Book_top.fn).ok sc_Book_top (fun vs H Q E h=>?_) (fun cdv AA outer s H vs Q E hr h=>?_)
 ·obtain ⟨b,B,s,y,n,rfl,_⟩:=h
  rfl
 ·obtain ⟨b,B,s,y,n,rfl,R,k⟩:=h
  refine ⟨_,(pss_cons (ps_if (pw_or (pt_not (pt_val (pe_call (ok_within T) (hr.mono (by decide)) (by rfl) T.u_within.mg T.u_within.kp T.u_within.bi .nil pass0 (pa_cons (pv 1) (pa_cons (pe_gint T.g_ALL_LIVE) pa_nil))))) (pw_or1 (pt_not (pt_val (pe_call (ok_within T) (hr.mono (by decide)) (by rfl) T.u_within.mg T.u_within.kp T.u_within.bi .nil pass0 (pa_cons (pv 2) (pa_cons (pe_gint T.g_MOST_ASKED) pa_nil))))))).pt
    (pss_one (ps_ret (pe_lst (pa_cons (pe_gint T.g_OUT_OF_RANGE) pa_nil))))
    pss_nil)
   (pss_one (ps_ret (pe_call (ok_counted T) (hr.mono (by decide)) (by rfl) T.u_counted.mg T.u_counted.kp T.u_counted.bi .nil pass0 (pa_cons (pe_meth (pe_fld (pv 0) rfl) T.cl_Ways T.m_Ways_most.me (ok_Ways_most T) (hr.mono (by decide)) T.m_Ways_most.bi .nil pass0 (pa_cons (pv 1) (pa_cons (pv 2) pa_nil))) pa_nil))))),?_⟩
  refine ⟨_,rfl,y,3,rfl,_,rfl,ite2 (fun c=>iteT (by first | exact c | rfl) ?_) (fun c=>?_)⟩
  ·have c:=nwT c
   exact k.same R (congrArg (Prod.mk s) (if_pos (.inl (by omega))))
  have c1:=nwF c
  refine ⟨_,rfl,n,1024,rfl,_,rfl,ite2 (fun c=>?_) (fun c=>?_)⟩
  ·have c:=nwT c
   exact k.same R (congrArg (Prod.mk s) (if_pos (.inr (by omega))))
  have c2:=nwF c
  have hd:does s (.top y n)=(s,⟨((tops s y n).length:Nat),Sh28.ints ((tops s y n).flatMap fun x=>[x.1,x.2])⟩):=congrArg (Prod.mk s) (if_neg (by omega))
  have W:=R.good.wf
  refine ⟨_,rfl,rd_fld T.fd_Book_ways R.at_.ob rfl (rd_meth R.at_.ways.ob (by decide +kernel) ⟨_,rfl,_,rfl,B.wy,B.nl,B.sd,B.as,s,numOf s,y,n,rfl,R.at_.ways,W,R.at_.bm,R.at_.lt2,fun l1 H1 RR g1 hp hs t1 lt1 e1=>?_⟩)⟩
  rw [top_rows s y n hp hs] at t1
  obtain ⟨R1,O1⟩:=R.at_.tab2 lt1 e1
  have htl:=tops_len s y n
  have hfl:=flat_len (n:=2) (tops s y n) pairRow (fun _=>rfl)
  refine ⟨l1,_,rfl,t1,by omega,fun r H2 g2 h2 e2=>?_⟩
  refine k r H2 B (by rw [hd];exact ⟨R1.kept e2,R.live,R.good⟩) ?_ (O1.fresh g2) (O1.trans (Out.kept e2))
  rw [h2,List.length_map,flat_pair]
  unfold ansOf
  rw [hd]
def sp_Book_mark (A:Adr):Sp:=fun vs H Q _=>∃ (b:Addr) (B:Bd) (s:State),vs=[.ref b]∧BookAt A H b B s∧Ends A H b B s .mark Q
theorem sc_Book_mark:FnScope ["self"] ["self"] (defScope s_Book_mark):=⟨rfl,rfl,rfl,by decide +kernel,rfl,by decide +kernel,by decide +kernel⟩
theorem ok_Book_mark (T:Txt K mg A):FnOk P w K mg base CX0 2 A.f_Book_mark A.d_Book_mark ["self"] (sp_Book_mark A):=by
 refine (T.m_Book_mark.fn).ok sc_Book_mark (fun vs H Q E h=>?_) (fun cdv AA outer s H vs Q E hr h=>?_)
 ·obtain ⟨b,B,s,rfl,_⟩:=h
  rfl
 ·obtain ⟨b,B,s,rfl,R,k⟩:=h
  refine ⟨_,(pss_cons (ps_if (pt_cmpR op_eq (pe_callB call_len_seq (by rfl) T.b_len PySem.boot_len (pa_cons (pe_fld (pv 0) rfl) pa_nil)) (pe_gint T.g_MOST_MARKS) (nomark _))
    (pss_one (ps_ret (pe_lst (pa_cons (pe_gint T.g_FULL) pa_nil))))
    pss_nil)
   (pss_cons (ps_expr (pe_bm PySem.F.plainAttrs_list PySem.F.slot_list_append PySem.F.type_list_append mt_append (pe_fld (pv 0) rfl) (pa_cons (pe_meth0 (pe_fld (pv 0) rfl) T.cl_Ways T.m_Ways_live_sums.me (ok_Ways_live_sums T) (hr.mono (by decide)) T.m_Ways_live_sums.bi .nil pass0) pa_nil)))
   (pss_one (ps_ret (pe_lst (pa_cons (pe_op op_sub (pe_callB call_len_seq (by rfl) T.b_len PySem.boot_len (pa_cons (pe_fld (pv 0) rfl) pa_nil)) pe_int) pa_nil)))))),?_⟩
  have hsl:=PySem.sizeLine_eq
  have hml:B.ms.length=s.marks.length:=by rw [R.at_.mkn];exact List.length_map ..
  have hmc:=R.good.mc
  refine ⟨_,rfl,rd_fld T.fd_Book_marks R.at_.ob rfl ⟨B.ma,_,rfl,.inl (SqL.of R.at_.mkl),rfl,_,rfl,?_⟩⟩
  rw [dec_int,List.length_map,hml]
  refine ite2 (fun c=>?_) (fun c=>?_)
  ·have c:(s.marks.length:Int)=64:=beq_iff_eq.mp c
   exact k.same R (if_pos (by show 64≤_;omega))
  have c:¬ (s.marks.length:Int)=64:=fun q=>c (beq_iff_eq.mpr q)
  have hd:does s .mark=({ s with marks:=s.marks++[marked s] },Sh28.nat s.marks.length):=if_neg (by show ¬ 64≤_;omega)
  refine ⟨_,rfl,rd_fld T.fd_Book_marks R.at_.ob rfl ⟨.inl ⟨rfl,_,SqL.of R.at_.mkl⟩,_,rfl,rd_fld T.fd_Book_ways R.at_.ob rfl (rd_meth R.at_.ways.ob (by decide +kernel) ⟨B.wy,B.nl,B.sd,B.as,s,numOf s,rfl,R.at_.ways,R.good.wf,fun m H1 gm t1 e1=>?_⟩)⟩⟩
  have R1:=R.at_.kept e1
  rw [live_marked] at t1
  have hmn:m∉B.ls:=fun h=>by
   obtain ⟨i,hi⟩:=List.getElem?_of_mem h
   have:tg (H m)=.ls:=by
    rcases Nat.lt_or_ge i 7 with h7 | h7
    ·match i,h7 with
     | 0,_=>cases hi;exact tg_ls R.at_.ways.lst
     | 1,_=>cases hi;exact tg_ls R.at_.pcs.lst
     | 2,_=>cases hi;exact tg_ls R.at_.rows.h1
     | 3,_=>cases hi;exact tg_ls R.at_.rows.h2
     | 4,_=>cases hi;exact tg_ls R.at_.rows.h3
     | 5,_=>cases hi;exact tg_ls R.at_.rows.h4
     | 6,_=>cases hi;exact tg_ls R.at_.mkl
    ·obtain ⟨j,rfl⟩:∃ j,i=j+7:=⟨i - 7,by omega⟩
     have hj:B.ms[j]?=some m:=hi
     have hjl:=(List.getElem?_eq_some_iff.mp hj).1
     obtain ⟨rr,hrr⟩:∃ rr,(dt s).marks[j]?=some rr:=⟨_,List.getElem?_eq_getElem (by rw [← R.at_.mkn];exact hjl)⟩
     obtain ⟨xs,hxs,_⟩:=(R.at_.mks j m rr hj hrr).len
     exact tg_ls hxs
   rw [gm] at this
   cases this
  refine ⟨B.ma,_,_,rfl,rfl,R1.mkl,by rw [List.length_map,hml];omega,?_⟩
  have h2:upd H1 B.ma (.lst (B.ms.map V.ref++[.ref m])) B.ma=some (.lst ((B.ms++[m]).map V.ref)):=by rw [upd_same,List.map_append];rfl
  have R2:=R1.mark' h2 t1 hmn fun x hx=>upd_ne hx
  have O2:Out H (upd H1 B.ma (.lst (B.ms.map V.ref++[.ref m]))) B { B with ms:=B.ms++[m] }:=fun x o=>by
   have nm:x≠m:=fun e=>o.some (by rw [e];exact gm)
   have na:x≠B.ma:=fun e=>o.2 (by rw [e];simp [Bd.ls])
   refine ⟨by rw [upd_ne na];exact e1 x o.some,?_⟩
   show x∉B.ls++[m]
   rw [List.mem_append,not_or]
   exact ⟨o.2,fun h=>nm (List.mem_singleton.mp h)⟩
  refine ⟨_,rfl,rd_fld T.fd_Book_marks R2.ob rfl ⟨B.ma,_,rfl,.inl (SqL.of h2),_,_,rfl,rfl,?_⟩⟩
  refine k.one (v:=_) (H1:=_) (B1:={ B with ms:=B.ms++[m] }) ?_ O2 ?_
  ·rw [hd]
   refine ⟨R2.eqv (D':=dt { s with marks:=s.marks++[marked s] }) rfl rfl (fun j _=>congrFun (numOf_like (s:=s) (t:={ s with marks:=s.marks++[marked s] }) rfl rfl).symm j) (Dt.ext' rfl rfl rfl rfl rfl rfl rfl rfl rfl rfl rfl rfl rfl rfl rfl ?_),R.live,good_mark R.good (by omega)⟩
   show _=(s.marks++[marked s]).map _
   rw [List.map_append];rfl
  ·unfold ansOf
   rw [hd,List.length_map,List.length_append,hml]
   show [((s.marks.length:Nat):Int)]=[((s.marks.length+1:Nat):Int) - 1]
   congr 1
   omega
def sp_Book_since (A:Adr):Sp:=fun vs H Q _=>∃ (b:Addr) (B:Bd) (s:State) (m:Nat),vs=[.ref b,.int m]∧BookAt A H b B s∧Ends A H b B s (.since m) Q
theorem sc_Book_since:FnScope ["self","m"] ["self","m"] (defScope s_Book_since):=⟨rfl,rfl,rfl,by decide +kernel,rfl,by decide +kernel,by decide +kernel⟩
theorem ok_Book_since (T:Txt K mg A):FnOk P w K mg base CX0 3 A.f_Book_since A.d_Book_since ["self","m"] (sp_Book_since A):=by
 refine (T.m_Book_since.fn).ok sc_Book_since (fun vs H Q E h=>?_) (fun cdv AA outer s H vs Q E hr h=>?_)
 ·obtain ⟨b,B,s,m,rfl,_⟩:=h
  rfl
 ·obtain ⟨b,B,s,m,rfl,R,k⟩:=h
  refine ⟨_,(pss_cons (ps_if (pt_not (pt_val (pe_call (ok_within T) (hr.mono (by decide)) (by rfl) T.u_within.mg T.u_within.kp T.u_within.bi .nil pass0 (pa_cons (pv 1) (pa_cons (pe_op op_sub (pe_callB call_len_seq (by rfl) T.b_len PySem.boot_len (pa_cons (pe_fld (pv 0) rfl) pa_nil)) pe_int) pa_nil)))))
    (pss_one (ps_ret (pe_lst (pa_cons (pe_gint T.g_NOT_THERE) pa_nil))))
    pss_nil)
   (pss_one (ps_ret (pe_call (ok_counted T) (hr.mono (by decide)) (by rfl) T.u_counted.mg T.u_counted.kp T.u_counted.bi .nil pass0 (pa_cons (pe_meth (pe_fld (pv 0) rfl) T.cl_Ways T.m_Ways_changes.me (ok_Ways_changes T) (hr.mono (by decide)) T.m_Ways_changes.bi .nil pass0 (pa_cons (pe_ix ix_list (pe_fld (pv 0) rfl) (pv 1) (fun _ _=>rfl)) pa_nil)) pa_nil))))),?_⟩
  have hml:B.ms.length=s.marks.length:=by rw [R.at_.mkn];exact List.length_map ..
  have e0:∀ x,s.marks[m]?=x→does s (.since m)=(s,match x with | none=>num (-4) | some o=>⟨((more s o).length:Nat),(more s o).flatMap fun x=>[(x.1:Int),x.2.1,x.2.2]⟩):=fun x h=>by subst h;rfl
  refine ⟨_,rfl,_,rfl,rd_fld T.fd_Book_marks R.at_.ob rfl ⟨B.ma,_,rfl,.inl (SqL.of R.at_.mkl),_,_,rfl,rfl,m,_,rfl,_,rfl,ite2 (fun c=>?_) (fun c=>?_)⟩⟩<;>rw [List.length_map,hml] at c
  ·have c:=nwT c
   have hn:s.marks[m]?=none:=List.getElem?_eq_none (by omega)
   have hd:does s (.since m)=(s,num (-4)):=e0 _ hn
   exact k.same R hd
  have c:=nwF c
  have hm:m<s.marks.length:=by omega
  have hs:=List.getElem?_eq_getElem hm
  have hd:does s (.since m)=(s,⟨((more s s.marks[m]).length:Nat),(more s s.marks[m]).flatMap fun x=>[(x.1:Int),x.2.1,x.2.2]⟩):=e0 _ hs
  have hmb:m<B.ms.length:=by omega
  have hb:B.ms[m]?=some (B.ms[m]'hmb):=List.getElem?_eq_getElem hmb
  have ht:=R.at_.mks m _ (s.marks[m].map pairRow) hb (by show (s.marks.map fun m=>m.map pairRow)[m]?=_;rw [List.getElem?_map,hs,Option.map_some])
  have W:=R.good.wf
  refine ⟨_,rfl,rd_fld T.fd_Book_ways R.at_.ob rfl (rd_meth R.at_.ways.ob (by decide +kernel) ⟨_,rfl,rd_fld T.fd_Book_marks R.at_.ob rfl ⟨_,rfl,B.ma,_,_,_,rfl,rfl,SqL.of R.at_.mkl,atI_nat (j:=m) (v:=.ref (B.ms[m]'hmb)) (by rw [List.getElem?_map,hb,Option.map_some]),B.wy,B.nl,B.sd,_,B.as,s,numOf s,_,rfl,R.at_.ways,W,ht,?_,?_,fun l1 H1 g1 t1 e1=>?_⟩⟩)⟩
  ·rw [List.length_map];exact R.good.ml _ (List.getElem_mem hm)
  ·rintro r hr2
   obtain ⟨x,_,rfl⟩:=List.mem_map.mp hr2
   exact ⟨_,_,rfl⟩
  rw [chg_more] at t1
  have hln:=more_len s s.marks[m]
  have hfew:=W.few
  have hfl:=flat_len (n:=3) (more s s.marks[m]) triple (fun _=>rfl)
  refine ⟨l1,_,rfl,t1,by omega,fun r H2 g2 h2 e2=>?_⟩
  refine k.read R hd rfl (kb e1 g2) ?_ (kt e1 e2)
  rw [h2,List.length_map,flat_triple]
def sp_Book_holds (A:Adr):Sp:=fun vs H Q _=>∃ (b:Addr) (B:Bd) (s:State) (y:Nat),vs=[.ref b,.int y]∧BookAt A H b B s∧Ends A H b B s (.holds y) Q
theorem sc_Book_holds:FnScope ["self","at","piece"] ["self","at"] (defScope s_Book_holds):=⟨rfl,rfl,rfl,by decide +kernel,rfl,by decide +kernel,by decide +kernel⟩
theorem ok_Book_holds (T:Txt K mg A):FnOk P w K mg base CX0 3 A.f_Book_holds A.d_Book_holds ["self","at"] (sp_Book_holds A):=by
 refine (T.m_Book_holds.fn).ok sc_Book_holds (fun vs H Q E h=>?_) (fun cdv AA outer s H vs Q E hr h=>?_)
 ·obtain ⟨b,B,s,y,rfl,_⟩:=h
  rfl
 ·obtain ⟨b,B,s,y,rfl,R,k⟩:=h
  refine ⟨_,(pss_cons (ps_if (pt_not (pt_val (pe_call (ok_within T) (hr.mono (by decide)) (by rfl) T.u_within.mg T.u_within.kp T.u_within.bi .nil pass0 (pa_cons (pv 1) (pa_cons (pe_gint T.g_MOST_PLACE) pa_nil)))))
    (pss_one (ps_ret (pe_lst (pa_cons (pe_gint T.g_OUT_OF_RANGE) pa_nil))))
    pss_nil)
   (pss_cons (ps_set (i:=2) sc_Book_holds.nd rfl (Or.inl rfl) (pe_meth (pe_fld (pv 0) rfl) T.cl_Pieces T.m_Pieces_holder.me (ok_Pieces_holder T) (hr.mono (by decide)) T.m_Pieces_holder.bi .nil pass0 (pa_cons (pv 1) pa_nil)))
   (pss_cons (ps_if (pt_cmp (pc_isN (pv 2)))
    (pss_one (ps_ret (pe_lst (pa_cons (pe_gint T.g_NOT_THERE) pa_nil))))
    pss_nil)
   (pss_one (ps_ret (pe_lst (pa_cons (pe_fld (pv 2) rfl) (pa_cons (pe_fld (pv 2) rfl) (pa_cons (pe_fld (pv 2) rfl) (pa_cons (pe_fld (pv 2) rfl) pa_nil)))))))))),?_⟩
  refine ⟨_,rfl,y,1099511627775,rfl,_,rfl,ite2 (fun c=>?_) (fun c=>?_)⟩
  ·exact k.same R (congrArg (Prod.mk s) (if_pos (placeF (nwT c))))
  have c1:¬ isPlace y=false:=by rw [placeT (nwF c)];decide
  have e0:∀ x,(s.live.find? fun p=>holdsByte p y)=x→does s (.holds y)=(s,match x with | none=>num (-4) | some p=>⟨((p.number:Nat):Int),Sh28.ints [p.place,p.size,p.node]⟩):=fun x h=>by
   subst h
   exact congrArg (Prod.mk s) (if_neg c1)
  refine ⟨_,rfl,rd_fld T.fd_Book_pieces R.at_.ob rfl (rd_meth R.at_.pcs.ob (by decide +kernel) ⟨_,rfl,B.pc,B.pd,B.pl,B.L,B.xs,y,rfl,R.at_.pcs,fun x hx hh=>?_,fun hh=>?_⟩)⟩
  ·have hxl:x.2∈s.live:=R.live.mem_iff.mp (List.mem_map.mpr ⟨x,hx,rfl⟩)
   have hf:(s.live.find? fun p=>holdsByte p y)=some x.2:=by
    cases hq:s.live.find? fun p=>holdsByte p y with
    | none=>exact absurd hh (by simpa using List.find?_eq_none.mp hq x.2 hxl)
    | some p=>rw [holds_one R.good.dis (List.mem_of_find?_eq_some hq) hxl (by have:=List.find?_some hq;exact this) hh]
   have ho:=R.at_.pcs.obs x hx
   refine ⟨_,rfl,_,rfl,iteF (by rw [decide_eq_true_eq];exact fun h=>by cases h) ?_⟩
   exact ⟨_,rfl,rd_fld T.fd_Piece_number ho rfl ⟨_,rfl,rd_fld T.fd_Piece_place ho rfl ⟨_,rfl,rd_fld T.fd_Piece_size ho rfl ⟨_,rfl,rd_fld T.fd_Piece_owner ho rfl ⟨slN 4,fun r g1=>k.read R (e0 _ hf) rfl g1 upd_same (al g1)⟩⟩⟩⟩⟩
  ·have hf:(s.live.find? fun p=>holdsByte p y)=none:=List.find?_eq_none.mpr fun p hp=>by
    obtain ⟨x,hx,e⟩:=List.mem_map.mp (R.live.mem_iff.mpr hp)
    rw [← e,hh x hx];decide
   refine ⟨_,rfl,_,rfl,iteT (by decide) ?_⟩
   exact k.same R (e0 _ hf)
def sp_Book_pick (A:Adr):Sp:=fun vs H Q _=>∃ (b:Addr) (B:Bd) (s:State) (n:Nat),vs=[.ref b,.int n]∧BookAt A H b B s∧Ends A H b B s (.pick n) Q
theorem sc_Book_pick:FnScope ["self","rate"] ["self","rate"] (defScope s_Book_pick):=⟨rfl,rfl,rfl,by decide +kernel,rfl,by decide +kernel,by decide +kernel⟩
theorem ok_Book_pick (T:Txt K mg A):FnOk P w K mg base CX0 2 A.f_Book_pick A.d_Book_pick ["self","rate"] (sp_Book_pick A):=by
 refine (T.m_Book_pick.fn).ok sc_Book_pick (fun vs H Q E h=>?_) (fun cdv AA outer s H vs Q E hr h=>?_)
 ·obtain ⟨b,B,s,n,rfl,_⟩:=h
  rfl
 ·obtain ⟨b,B,s,n,rfl,R,k⟩:=h
  refine ⟨_,(pss_cons (ps_if (pt_not (pt_val (pe_call (ok_within T) (hr.mono (by decide)) (by rfl) T.u_within.mg T.u_within.kp T.u_within.bi .nil pass0 (pa_cons (pv 1) (pa_cons (pe_gint T.g_MOST_RATE) pa_nil)))))
    (pss_one (ps_ret (pe_lst (pa_cons (pe_gint T.g_OUT_OF_RANGE) pa_nil))))
    pss_nil)
   (pss_cons (ps_expr (pe_meth (pe_fld (pv 0) rfl) T.cl_Picks T.m_Picks_start.me (ok_Picks_start T) (hr.mono (by decide)) T.m_Picks_start.bi .nil pass0 (pa_cons (pv 1) pa_nil)))
   (pss_one (ps_ret (pe_lst (pa_cons (pe_fld (pe_fld (pv 0) rfl) rfl) pa_nil)))))),?_⟩
  refine ⟨_,rfl,n,4294967295,rfl,_,rfl,ite2 (fun c=>?_) (fun c=>?_)⟩
  ·exact k.same R (if_pos (wordF (nwT c)))
  have hz0:=nwF c
  have c1:¬ isWord n=false:=by rw [wordT hz0];decide
  have hd:does s (.pick n)=({ s with rate:=n,off:=0 },Sh28.nat (s.nodes.map fun (n:Sh28.Node)=>n.picks).sum):=if_neg c1
  refine ⟨_,rfl,rd_fld T.fd_Book_picks R.at_.ob rfl (rd_meth R.at_.picks.ob (by decide +kernel) ⟨_,rfl,B.pk,B.kd,s.rate,s.off,_,n,_,rfl,R.at_.picks,fun H1 P1 e1=>?_⟩)⟩
  obtain ⟨R1,O1⟩:=R.at_.picks' P1 fun x _ n1 _=>e1 x n1
  refine ⟨_,rfl,rd_fld T.fd_Book_picks R1.ob rfl (rd_fld T.fd_Picks_total R1.picks.ob rfl (k.one (v:=(((s.nodes.map fun (n:Sh28.Node)=>n.picks).sum:Nat):Int)) (H1:=H1) (B1:=B) ?_ O1 (by unfold ansOf;rw [hd];rfl)))⟩
  rw [hd]
  exact ⟨R1.eqv (D':=dt { s with rate:=n,off:=0 }) rfl rfl (fun j _=>congrFun (numOf_like (s:=s) (t:={ s with rate:=n,off:=0 }) rfl rfl).symm j) rfl,R.live,good_pick R.good (by omega)⟩
def sp_Book_picked (A:Adr):Sp:=fun vs H Q _=>∃ (b:Addr) (B:Bd) (s:State),vs=[.ref b]∧BookAt A H b B s∧Ends A H b B s .picked Q
theorem sc_Book_picked:FnScope ["self"] ["self"] (defScope s_Book_picked):=⟨rfl,rfl,rfl,by decide +kernel,rfl,by decide +kernel,by decide +kernel⟩
theorem ok_Book_picked (T:Txt K mg A):FnOk P w K mg base CX0 3 A.f_Book_picked A.d_Book_picked ["self"] (sp_Book_picked A):=by
 refine (T.m_Book_picked.fn).ok sc_Book_picked (fun vs H Q E h=>?_) (fun cdv AA outer s H vs Q E hr h=>?_)
 ·obtain ⟨b,B,s,rfl,_⟩:=h
  rfl
 ·obtain ⟨b,B,s,rfl,R,k⟩:=h
  refine ⟨_,(pss_one (ps_ret (pe_call (ok_counted T) (hr.mono (by decide)) (by rfl) T.u_counted.mg T.u_counted.kp T.u_counted.bi .nil pass0 (pa_cons (pe_meth0 (pe_fld (pv 0) rfl) T.cl_Picks T.m_Picks_of_nodes.me (ok_Picks_of_nodes T) (hr.mono (by decide)) T.m_Picks_of_nodes.bi .nil pass0) pa_nil)))),?_⟩
  refine ⟨_,rfl,rd_fld T.fd_Book_picks R.at_.ob rfl (rd_meth R.at_.picks.ob (by decide +kernel) ⟨B.pk,B.kd,s.rate,s.off,_,_,rfl,R.at_.picks,fun l1 H1 ms g1 hms hmem hlen t1 e1=>?_⟩)⟩
  have hfl:=flat_len (n:=3) ms (fun (k:Nat)=>[(k:Int),(((dt s).g k).1:Int),(((dt s).g k).2:Int)]) (fun _=>rfl)
  refine ⟨l1,_,rfl,t1,by omega,fun r H2 g2 h2 e2=>?_⟩
  refine k.read R rfl rfl (kb e1 g2) ?_ (kt e1 e2)
  have hp:=picked_rows (s:=s) hms hmem
  rw [h2]
  simp only [hp]
  rw [List.length_map,List.length_map]
  unfold Sh28.ints
  rw [List.map_flatMap,List.flatMap_map,List.flatMap_def]
  rfl
end
end Bk
namespace Bk
open PySem L2
open Sh28
theorem older_iff (p q:Piece):older p q=true↔p.born<q.born∨(p.born=q.born∧p.number<q.number):=by unfold older;simp
theorem oldest_eq {s:State} (G:Good s) {M:List Piece} (hp:M.Perm s.live) (hs:M.Pairwise fun x y=>x.number<y.number):M=sortBy older s.live:=by
 refine sorted_unique (lt:=fun p q=>older p q=true) (fun p q h1 h2=>?_) (hp.trans (sortBy_perm older _).symm) ?_ (sortBy_pw (lt:=older) (fun x y z h1 h2=>?_) ?_)
 ·rw [older_iff] at h1 h2;omega
 ·refine List.Pairwise.imp_of_mem (fun {x y} hx hy h=>?_) hs
  have:=G.ord x (hp.mem_iff.mp hx) y (hp.mem_iff.mp hy) h
  rw [older_iff];omega
 ·rw [older_iff] at h1 h2 ⊢;omega
 ·refine G.num.imp fun {x y} h=>?_
  rw [older_iff,older_iff];omega
def oldRow (s:State) (p:Piece):List Int:=[(p.place:Int),(p.size:Int),(p.node:Int),(s.time:Int) - (p.born:Int)]
theorem flat_old {s:State}:∀ {l:List Piece},(∀ p∈l,p.born≤s.time)→(l.map (oldRow s)).flatten=Sh28.ints (l.flatMap fun p=>[p.place,p.size,p.node,s.time - p.born])
 | [],_=>rfl
 | p::l,h=>by
  have h1:=h p List.mem_cons_self
  rw [List.map_cons,List.flatten_cons,flat_old fun q hq=>h q (List.mem_cons_of_mem _ hq),List.flatMap_cons]
  unfold Sh28.ints
  rw [List.map_append]
  congr 1
  unfold oldRow
  show _=[(p.place:Int),(p.size:Int),(p.node:Int),((s.time - p.born:Nat):Int)]
  rw [show ((s.time - p.born:Nat):Int)=(s.time:Int) - (p.born:Int) from by omega]
theorem insert_le (x:Nat):∀ {l:List Nat},l.Pairwise (·≤·)→(insertBy (fun (a b:Nat)=>decide (a<b)) x l).Pairwise (·≤·)
 | [],_=>by unfold insertBy;simp
 | y::l,h=>by
  obtain ⟨h1,h2⟩:=List.pairwise_cons.mp h
  unfold insertBy
  by_cases e:x<y
  ·rw [if_pos (decide_eq_true e),List.pairwise_cons]
   refine ⟨fun z hz=>?_,h⟩
   rcases List.mem_cons.mp hz with rfl | hz
   ·omega
   ·have:=h1 z hz;omega
  ·rw [if_neg (by rw [decide_eq_true_eq];exact e),List.pairwise_cons]
   refine ⟨fun z hz=>?_,insert_le x h2⟩
   have hz:=(insertBy_perm _ x l).mem_iff.mp hz
   rcases List.mem_cons.mp hz with rfl | hz
   ·omega
   ·exact h1 z hz
theorem sort_le:∀ l:List Nat,(sortBy (fun (a b:Nat)=>decide (a<b)) l).Pairwise (·≤·)
 | []=>List.Pairwise.nil
 | x::l=>insert_le x (sort_le l)
theorem share_perm {L L':List (Nat × Nat)} (h:L'.Perm L) (p:Nat):shareOf L' p=shareOf L p:=by
 unfold shareOf
 have e:sortBy (fun (a b:Nat)=>decide (a<b)) (L'.map fun x=>x.1)=sortBy (fun (a b:Nat)=>decide (a<b)) (L.map fun x=>x.1) :=
  List.Perm.eq_of_pairwise (le:=(·≤·)) (fun a b _ _ h1 h2=>Nat.le_antisymm h1 h2) (sort_le _) (sort_le _) ((sortBy_perm _ _).trans ((h.map _).trans (sortBy_perm _ _).symm))
 rw [e,weight_perm h]
 refine congrArg (List.find? · _) (funext fun v=>?_)
 rw [weight_perm (h.filter _)]
theorem flat_if {α β:Type} (l:List α) (q:α→Bool) (g:α→List β):((l.filter q).map g).flatten=l.flatMap fun x=>if q x=true then g x else []:=by
 induction l with
 | nil=>rfl
 | cons a l ih =>
  rw [List.flatMap_cons,List.filter_cons]
  by_cases h:q a=true
  ·rw [if_pos h,if_pos h,List.map_cons,List.flatten_cons,ih]
  ·rw [if_neg h,if_neg h,ih];rfl
theorem text_eq (s:State) (b:Nat):textRows s (sumRows (numOf s) b s.nodes.length)=textOf s b:=by
 rw [sumRows_top]
 unfold textRows topX textOf
 rw [List.filter_map,List.map_map,List.map_map,flat_if]
 refine congrArg (List.flatMap · _) (funext fun k=>?_)
 show (if (much s b k != 0)=true then lineOf s ((k:Int)).toNat (((much s b k:Nat):Int)).toNat else [])=if much s b k=0 then [] else _
 by_cases e:much s b k=0
 ·rw [if_pos e,if_neg (by rw [bne_iff_ne];exact fun h=>h e)]
 ·rw [if_neg e,if_pos (bne_iff_ne.mpr e),Int.toNat_natCast,Int.toNat_natCast];rfl
theorem much_lt {s:State} (G:Good s) {b:Nat} (hb:b≤1) (k:Nat):nmBy (numOf s k) b<10 ^ 20:=by
 rw [nmBy_num]
 unfold much
 by_cases h0:b=0
 ·rw [if_pos h0]
  have h1:ownBytes s k≤sumOf s.live:=sm_le (fun j=>j == k) s.live
  have h2:=sumOf_le s.live G.size
  have h3:=G.few
  omega
 ·rw [if_neg h0,if_pos (by omega)]
  have h1:=G.nb k
  have h2:=G.bytes
  omega
end Bk
namespace Bk
open PySem L2
theorem lc_str {x:Str}{g:TG}{tt:TT}{te:TE}{vs:List Nat}{σ:L2.St}{H1:Hp}{D:Addr}{Qd:Hp→Prop} (Pv:Nat→Hp→Prop) (h0:Pv 0 (upd H1 D (.lst [])))
  (hs:∀ i c H,x.cps[i]?=some c→Pv i H→g (.str ⟨#[c]⟩) (wipe σ vs) H fun σ2 H2=>wipe σ2 vs=wipe σ vs∧tt σ2 H2 fun b H3 =>
   if b=true then te σ2 H3 fun y H4=>∃ acc,H4 D=some (.lst acc)∧acc.length<sizeLine∧Pv (i+1) (upd H4 D (.lst (acc++[y]))) else Pv (i+1) H3) (hd:∀ H,Pv x.cps.size H→Qd H) :
  ∃ W:Nat→Nat→Hp→Prop,(∃ m,W 0 m (upd H1 D (.lst [])))∧∀ i m H,W i m H →
   ((Its x).stop i H∧Qd H)∨((Its x).go i H∧∃ Nx:Hp→Prop,(∀ H',Nx H'→∃ m',m'<m∧W (i+1) m' H')∧∀ v H',(Its x).yld i H v H'→g v (wipe σ vs) H' fun σ2 H2=>wipe σ2 vs=wipe σ vs∧tt σ2 H2 fun b H3 =>
    if b=true then te σ2 H3 fun y H4=>∃ acc,H4 D=some (.lst acc)∧acc.length<sizeLine∧Nx (upd H4 D (.lst (acc++[y]))) else Nx H3):=by
 refine ⟨fun i m H=>m=x.cps.size - i∧i≤x.cps.size∧Pv i H,⟨x.cps.size,by simp,Nat.zero_le _,h0⟩,?_⟩
 rintro i m H ⟨rfl,hi,p⟩
 by_cases hlt:i<x.cps.size
 ·refine .inr ⟨hlt,Pv (i+1),fun H' p'=>⟨x.cps.size - (i+1),by omega,rfl,hlt,p'⟩,fun v H' y=>?_⟩
  obtain ⟨e,c,hc,rfl⟩:=y
  subst e
  exact hs i c _ hc p
 ·have e:i=x.cps.size:=by omega
  subst e
  exact .inl ⟨Nat.le_refl _,hd H p⟩
abbrev rOrd:List V→Hp→VK→Prop:=fun xs H Q=>∃ x,xs=[.str x]∧x.length=1∧Q (.int (x.cps.getD 0 0:Nat)) H
end Bk
namespace Bk
open PySem L2
open Sh28 (State nodeAt depthOf child up under wayUp pathOf findWay begun Piece does num isWho isPlace isWord sortBy older weight shareOf textOf)
theorem Sh28_sort_mem (s:State) {p:Piece}:p∈sortBy older s.live↔p∈s.live:=(sortBy_perm older s.live).mem_iff
theorem text_len {s:State} (G:Good s) {b:Nat} (hb:b≤1):(textOf s b).length≤410 * s.nodes.length:=by
 have key:∀ (N:Nat),N≤s.nodes.length→((List.range N).flatMap fun k=>let n:=Sh28.much s b k
  if n=0 then [] else Sh28.joined (pathOf s k)++(32::(Sh28.decimal n++[10]))).length≤410 * N:=fun N=>by
  induction N with
  | zero=>intro _;exact Nat.le_refl _
  | succ N ih =>
   intro h
   have:=ih (by omega)
   rw [List.range_succ,List.flatMap_append,List.length_append,List.flatMap_singleton]
   have h2:(if Sh28.much s b N=0 then [] else Sh28.joined (pathOf s N)++(32::(Sh28.decimal (Sh28.much s b N)++[10]))).length≤410:=by
    by_cases e:Sh28.much s b N=0
    ·rw [if_pos e];exact Nat.zero_le _
    ·rw [if_neg e]
     have hm:=much_lt G hb N
     rw [nmBy_num] at hm
     exact lineOf_len G.wf (k:=N) (by omega) (by omega)
   show _+(if Sh28.much s b N=0 then [] else Sh28.joined (pathOf s N)++(32::(Sh28.decimal (Sh28.much s b N)++[10]))).length≤_
   omega
 exact key s.nodes.length (Nat.le_refl _)
section
variable {P:Program}{w:World}{K:PySem.W.Frag}{mg:Str→Option Value}{base:Heap}{A:Adr}
def sp_Book_oldest (A:Adr):Sp:=fun vs H Q _=>∃ (b:Addr) (B:Bd) (s:State) (n:Nat),vs=[.ref b,.int n]∧BookAt A H b B s∧Ends A H b B s (.oldest n) Q
theorem sc_Book_oldest:FnScope ["self","k","found","piece"] ["self","k"] (defScope s_Book_oldest):=⟨rfl,rfl,rfl,by decide +kernel,rfl,by decide +kernel,by decide +kernel⟩
theorem ok_Book_oldest (T:Txt K mg A):FnOk P w K mg base CX0 4 A.f_Book_oldest A.d_Book_oldest ["self","k"] (sp_Book_oldest A):=by
 refine (T.m_Book_oldest.fn).ok sc_Book_oldest (fun vs H Q E h=>?_) (fun cdv AA outer s H vs Q E hr h=>?_)
 ·obtain ⟨b,B,s,n,rfl,_⟩:=h
  rfl
 ·obtain ⟨b,B,s,n,rfl,R,k⟩:=h
  refine ⟨_,(pss_cons (ps_if (pt_not (pt_val (pe_call (ok_within T) (hr.mono (by decide)) (by rfl) T.u_within.mg T.u_within.kp T.u_within.bi .nil pass0 (pa_cons (pv 1) (pa_cons (pe_gint T.g_MOST_ASKED) pa_nil)))))
    (pss_one (ps_ret (pe_lst (pa_cons (pe_gint T.g_OUT_OF_RANGE) pa_nil))))
    pss_nil)
   (pss_cons (ps_set (i:=2) sc_Book_oldest.nd rfl (Or.inl rfl) (pe_meth (pe_fld (pv 0) rfl) T.cl_Pieces T.m_Pieces_eldest.me (ok_Pieces_eldest T) (hr.mono (by decide)) T.m_Pieces_eldest.bi .nil pass0 (pa_cons (pv 1) pa_nil)))
   (pss_one (ps_ret (pe_call (ok_counted T) (hr.mono (by decide)) (by rfl) T.u_counted.mg T.u_counted.kp T.u_counted.bi .nil pass0 (pa_cons (pe_lc (own:=[("piece",3)]) (g:=(gName 3)) (te:=(tTup (tCons (tFld K (tVar 3) "place") (tCons (tFld K (tVar 3) "size") (tCons (tFld K (tVar 3) "owner") (tCons (tOp (rI0 fun i j=>.int (i - j)) (tFld K (tVar 0) "time") (tFld K (tVar 3) "born")) tNil)))))) rfl sc_Book_oldest.nd (pi_list (pv 2)) ⟨rfl,by decide +kernel,(show ∀ p∈([("piece",3)]:List (Str × Nat)),(["self","k","found","piece"]:List Str)[p.2]?=some p.1 by decide +kernel),(show ∀ y∈(_:List (Str × NameKind)),y.2=NameKind.free→(defScope s_Book_oldest).names.lookup y.1=some NameKind.cell∨(defScope s_Book_oldest).names.lookup y.1=some NameKind.free by decide +kernel),(show ∀ y∈(_:List (Str × NameKind)),y.2=NameKind.local∨y.2=NameKind.cell→y.1∈([("piece",3)]:List (Str × Nat)).map (·.1)∨y.1∉(["self","k","found","piece"]:List Str) by decide +kernel)⟩ (fun _ _ _ _ _=>(pg_name (i:=3) sc_Book_oldest.nd rfl (Or.inl rfl))) (fun _ _ _ _ _=>pts_nil) (fun _ _ _ _ _=>(pe_tup (pa_cons (pe_fld (pv 3) rfl) (pa_cons (pe_fld (pv 3) rfl) (pa_cons (pe_fld (pv 3) rfl) (pa_cons (pe_op op_sub (pe_fld (pv 0) rfl) (pe_fld (pv 3) rfl)) pa_nil))))))) pa_nil)))))),?_⟩
  have hsl:=PySem.sizeLine_eq
  refine ⟨_,rfl,n,1024,rfl,_,rfl,ite2 (fun c=>?_) (fun c=>?_)⟩
  ·have c:=nwT c
   exact k.same R (congrArg (Prod.mk s) (if_pos (by omega)))
  have c2:=nwF c
  have hd:does s (.oldest n)=(s,⟨(((sortBy older s.live).take n).length:Nat),Sh28.ints (((sortBy older s.live).take n).flatMap fun p=>[p.place,p.size,p.node,s.time - p.born])⟩):=congrArg (Prod.mk s) (if_neg (by omega))
  refine ⟨_,rfl,rd_fld T.fd_Book_pieces R.at_.ob rfl (rd_meth R.at_.pcs.ob (by decide +kernel) ⟨_,rfl,B.pc,B.pd,B.pl,B.L,B.xs,n,rfl,R.at_.pcs,R.at_.bm,R.at_.lt1,fun l1 H1 L' g1 hp hs h1 lt1 e1=>?_⟩)⟩
  obtain ⟨R1,O1⟩:=R.at_.tab1 lt1 e1
  have hM:=oldest_eq R.good ((hp.map (·.2)).trans R.live) (List.pairwise_map.mpr hs)
  have htl:(L'.take n).length≤n:=by rw [List.length_take];exact Nat.min_le_left _ _
  have hrow:(L'.take n).map (·.2)=(sortBy older s.live).take n:=by rw [List.map_take,hM]
  refine ⟨_,rfl,l1,rfl,⟨_,SqL.of h1⟩,fun D hD=>?_⟩
  have e0:=al (o:=.lst []) hD
  refine lc_list (xs:=(L'.take n).map fun x=>V.ref x.1) (fun i H'=>Tups H' D (((L'.take n).take i).map fun x=>oldRow s x.2)∧∀ x,H1 x≠none→H' x=H1 x) ⟨Tups.nil upd_same,e0⟩ ?_ ?_ ?_
  ·rintro i H' _ ⟨_,q⟩
   exact SqL.of (ks q h1)
  ·rintro i x H' hx ⟨ht,q⟩
   rw [List.getElem?_map] at hx
   obtain ⟨a,ha,rfl⟩:=Option.map_eq_some_iff.mp hx
   have haL:a∈B.L:=hp.mem_iff.mp (List.mem_of_mem_take (List.mem_of_getElem? ha))
   have Rq:=R1.kept q
   have ho:=Rq.pcs.obs a haL
   obtain ⟨xs,hxs,hlen⟩:=ht.len
   have hlen':xs.length≤n:=by rw [hlen,List.length_map,List.length_take];omega
   refine ⟨rfl,_,rfl,rd_fld T.fd_Piece_place ho rfl ⟨_,rfl,rd_fld T.fd_Piece_size ho rfl ⟨_,rfl,rd_fld T.fd_Piece_owner ho rfl ⟨_,rfl,rd_fld T.fd_Book_time Rq.ob rfl ⟨_,rfl,rd_fld T.fd_Piece_born ho rfl ⟨_,_,rfl,rfl,slN 4,fun t ht2=>?_⟩⟩⟩⟩⟩⟩
   have nlt:D≠t:=fun e=>by rw [← e,hxs] at ht2;cases ht2
   refine ⟨xs,by rw [upd_ne nlt];exact hxs,by omega,?_,fun x hx=>?_⟩
   ·rw [List.take_add_one,ha,List.map_append]
    exact ht.push hxs ht2 upd_same (by rw [upd_ne nlt.symm,upd_same];rfl) fun x hx n=>by rw [upd_ne n,upd_ne fun e=>hx (by rw [e];exact ht2)]
   ·have hq:=q x hx
    have n1:x≠D:=fun e=>hx (by rw [e];exact hD)
    have n2:x≠t:=fun e=>hx (by rw [← hq,e];exact ht2)
    rw [upd_ne n1,upd_ne n2,hq]
  ·rintro H2 ⟨ht,e2⟩
   rw [List.length_map,List.take_length] at ht
   have hrows:((L'.take n).map fun x=>oldRow s x.2)=((sortBy older s.live).take n).map (oldRow s):=by rw [← hrow,List.map_map];rfl
   rw [hrows] at ht
   have htl2:((sortBy older s.live).take n).length≤n:=by rw [List.length_take];exact Nat.min_le_left _ _
   have hfl:=flat_len (n:=4) ((sortBy older s.live).take n) (oldRow s) (fun _=>rfl)
   refine ⟨D,_,rfl,ht,by omega,fun r H3 g3 h3 e3=>?_⟩
   have O3:=O1.trans (Out.kept (kt e2 e3))
   refine k r H3 B (by rw [hd];exact ⟨R1.kept (kt e2 e3),R.live,R.good⟩) ?_ ((O1.trans (Out.kept e2)).fresh g3) O3
   rw [h3,List.length_map,flat_old fun p hp=>R.good.born p ((Sh28_sort_mem s).mp (List.mem_of_mem_take hp))]
   unfold ansOf
   rw [hd]
def wgt (s:State) (what:Nat) (p:Piece):Nat × Nat:=if what=0 then (p.size,1) else if what=1 then (p.size,p.size) else (s.time - p.born,1)
def sp_Book_weighed (A:Adr):Sp:=fun vs H Q _=>∃ (b:Addr) (B:Bd) (s:State) (n:Nat),vs=[.ref b,.int n]∧BookAt A H b B s ∧
 ∀ (l:Addr) (H':Hp) (M:List Piece),H l=none→M.Perm s.live→Tups H' l (M.map fun p=>pairRow (wgt s n p))→(∀ x,H x≠none→H' x=H x)→Q (.ref l) H'
theorem sc_Book_weighed:FnScope ["self","what","living","piece"] ["self","what"] (defScope s_Book_weighed):=⟨rfl,rfl,rfl,by decide +kernel,rfl,by decide +kernel,by decide +kernel⟩
theorem ok_Book_weighed (T:Txt K mg A):FnOk P w K mg base CX0 2 A.f_Book_weighed A.d_Book_weighed ["self","what"] (sp_Book_weighed A):=by
 refine (T.m_Book_weighed.fn).ok sc_Book_weighed (fun vs H Q E h=>?_) (fun cdv AA outer s H vs Q E hr h=>?_)
 ·obtain ⟨b,B,s,n,rfl,_⟩:=h
  rfl
 ·obtain ⟨b,B,s,n,rfl,R,k⟩:=h
  refine ⟨_,(pss_cons (ps_set (i:=2) sc_Book_weighed.nd rfl (Or.inl rfl) (pe_meth0 (pe_fld (pv 0) rfl) T.cl_Pieces T.m_Pieces_living.me (ok_Pieces_living T) (hr.mono (by decide)) T.m_Pieces_living.bi .nil pass0))
   (pss_cons (ps_if (pt_cmpR op_eq (pv 1) (pe_gint T.g_PIECES_BY_SIZE) (nomark _))
    (pss_one (ps_ret (pe_lc (own:=[("piece",3)]) (g:=(gName 3)) (te:=(tTup (tCons (tFld K (tVar 3) "size") (tCons (tC (.int 1)) tNil)))) rfl sc_Book_weighed.nd (pi_list (pv 2)) ⟨rfl,by decide +kernel,(show ∀ p∈([("piece",3)]:List (Str × Nat)),(["self","what","living","piece"]:List Str)[p.2]?=some p.1 by decide +kernel),(show ∀ y∈(_:List (Str × NameKind)),y.2=NameKind.free→(defScope s_Book_weighed).names.lookup y.1=some NameKind.cell∨(defScope s_Book_weighed).names.lookup y.1=some NameKind.free by decide +kernel),(show ∀ y∈(_:List (Str × NameKind)),y.2=NameKind.local∨y.2=NameKind.cell→y.1∈([("piece",3)]:List (Str × Nat)).map (·.1)∨y.1∉(["self","what","living","piece"]:List Str) by decide +kernel)⟩ (fun _ _ _ _ _=>(pg_name (i:=3) sc_Book_weighed.nd rfl (Or.inl rfl))) (fun _ _ _ _ _=>pts_nil) (fun _ _ _ _ _=>(pe_tup (pa_cons (pe_fld (pv 3) rfl) (pa_cons pe_int pa_nil)))))))
    pss_nil)
   (pss_cons (ps_if (pt_cmpR op_eq (pv 1) (pe_gint T.g_BYTES_BY_SIZE) (nomark _))
    (pss_one (ps_ret (pe_lc (own:=[("piece",3)]) (g:=(gName 3)) (te:=(tTup (tCons (tFld K (tVar 3) "size") (tCons (tFld K (tVar 3) "size") tNil)))) rfl sc_Book_weighed.nd (pi_list (pv 2)) ⟨rfl,by decide +kernel,(show ∀ p∈([("piece",3)]:List (Str × Nat)),(["self","what","living","piece"]:List Str)[p.2]?=some p.1 by decide +kernel),(show ∀ y∈(_:List (Str × NameKind)),y.2=NameKind.free→(defScope s_Book_weighed).names.lookup y.1=some NameKind.cell∨(defScope s_Book_weighed).names.lookup y.1=some NameKind.free by decide +kernel),(show ∀ y∈(_:List (Str × NameKind)),y.2=NameKind.local∨y.2=NameKind.cell→y.1∈([("piece",3)]:List (Str × Nat)).map (·.1)∨y.1∉(["self","what","living","piece"]:List Str) by decide +kernel)⟩ (fun _ _ _ _ _=>(pg_name (i:=3) sc_Book_weighed.nd rfl (Or.inl rfl))) (fun _ _ _ _ _=>pts_nil) (fun _ _ _ _ _=>(pe_tup (pa_cons (pe_fld (pv 3) rfl) (pa_cons (pe_fld (pv 3) rfl) pa_nil)))))))
    pss_nil)
   (pss_one (ps_ret (pe_lc (own:=[("piece",3)]) (g:=(gName 3)) (te:=(tTup (tCons (tOp (rI0 fun i j=>.int (i - j)) (tFld K (tVar 0) "time") (tFld K (tVar 3) "born")) (tCons (tC (.int 1)) tNil)))) rfl sc_Book_weighed.nd (pi_list (pv 2)) ⟨rfl,by decide +kernel,(show ∀ p∈([("piece",3)]:List (Str × Nat)),(["self","what","living","piece"]:List Str)[p.2]?=some p.1 by decide +kernel),(show ∀ y∈(_:List (Str × NameKind)),y.2=NameKind.free→(defScope s_Book_weighed).names.lookup y.1=some NameKind.cell∨(defScope s_Book_weighed).names.lookup y.1=some NameKind.free by decide +kernel),(show ∀ y∈(_:List (Str × NameKind)),y.2=NameKind.local∨y.2=NameKind.cell→y.1∈([("piece",3)]:List (Str × Nat)).map (·.1)∨y.1∉(["self","what","living","piece"]:List Str) by decide +kernel)⟩ (fun _ _ _ _ _=>(pg_name (i:=3) sc_Book_weighed.nd rfl (Or.inl rfl))) (fun _ _ _ _ _=>pts_nil) (fun _ _ _ _ _=>(pe_tup (pa_cons (pe_op op_sub (pe_fld (pv 0) rfl) (pe_fld (pv 3) rfl)) (pa_cons pe_int pa_nil)))))))))),?_⟩
  have hsl:=PySem.sizeLine_eq
  have hfew:=R.good.few
  have hll:=len_live R
  refine ⟨_,rfl,rd_fld T.fd_Book_pieces R.at_.ob rfl (rd_meth R.at_.pcs.ob (by decide +kernel) ⟨B.pc,B.pd,B.pl,B.L,B.xs,rfl,R.at_.pcs,fun l1 H1 L' g1 hp h1 e1=>?_⟩)⟩
  have R1:=R.at_.kept e1
  have hpl:=hp.length_eq
  have fin:∀ {D:Addr}{H2:Hp},H1 D=none→Tups H2 D ((L'.take L'.length).map fun x=>pairRow (wgt s n x.2))→(∀ x,H1 x≠none→H2 x=H1 x)→Q (.ref D) H2:=fun {D H2} hD ht e2=>by
   rw [List.take_length] at ht
   refine k D H2 (L'.map (·.2)) (kb e1 hD) ((hp.map _).trans R.live) ?_ (kt e1 e2)
   rw [List.map_map];exact ht
  have step:∀ {D:Addr}{H':Hp}{i:Nat}{a:Addr × Piece}{v:List Int},H1 D=none→L'[i]?=some a→Tups H' D ((L'.take i).map fun x=>pairRow (wgt s n x.2))→(∀ x,H1 x≠none→H' x=H1 x)→v=pairRow (wgt s n a.2)→∀ t,H' t=none →
    ∃ acc,upd H' t (.tup (v.map V.int)) D=some (.lst acc)∧acc.length<sizeLine∧(Tups (upd (upd H' t (.tup (v.map V.int))) D (.lst (acc++[.ref t]))) D ((L'.take (i+1)).map fun x=>pairRow (wgt s n x.2))∧∀ x,H1 x≠none→upd (upd H' t (.tup (v.map V.int))) D (.lst (acc++[.ref t])) x=H1 x):=fun {D H' i a v} hD ha ht q hv t ht2=>by
   obtain ⟨xs,hxs,hlen⟩:=ht.len
   have hi:=(List.getElem?_eq_some_iff.mp ha).1
   have hlen':xs.length≤i:=by rw [hlen,List.length_map,List.length_take];omega
   have nlt:D≠t:=fun e=>by rw [← e,hxs] at ht2;cases ht2
   refine ⟨xs,by rw [upd_ne nlt];exact hxs,by omega,?_,fun x hx=>?_⟩
   ·rw [List.take_add_one,ha,List.map_append,hv]
    exact ht.push hxs ht2 upd_same (by rw [upd_ne nlt.symm,upd_same]) fun x hx n=>by rw [upd_ne n,upd_ne fun e=>hx (by rw [e];exact ht2)]
   ·have hq:=q x hx
    have n1:x≠D:=fun e=>hx (by rw [e];exact hD)
    have n2:x≠t:=fun e=>hx (by rw [← hq,e];exact ht2)
    rw [upd_ne n1,upd_ne n2,hq]
  refine ⟨_,rfl,rfl,_,rfl,?_⟩
  rw [dec_int]
  refine ite2 (fun c=>?_) (fun c=>?_)
  ·have c:(n:Int)=0:=beq_iff_eq.mp c
   have c0:n=0:=by omega
   refine ⟨_,rfl,l1,rfl,⟨_,SqL.of h1⟩,fun D hD=>?_⟩
   refine lc_list (xs:=L'.map fun x=>V.ref x.1) (fun i H'=>Tups H' D ((L'.take i).map fun x=>pairRow (wgt s n x.2))∧∀ x,H1 x≠none→H' x=H1 x) ⟨Tups.nil upd_same,al hD⟩ ?_ ?_ ?_
   ·rintro i H' _ ⟨_,q⟩
    exact SqL.of (ks q h1)
   ·rintro i x H' hx ⟨ht,q⟩
    rw [List.getElem?_map] at hx
    obtain ⟨a,ha,rfl⟩:=Option.map_eq_some_iff.mp hx
    have ho:=(R1.kept q).pcs.obs a (hp.mem_iff.mp (List.mem_of_getElem? ha))
    exact ⟨rfl,_,rfl,rd_fld T.fd_Piece_size ho rfl ⟨slN 2,step (v:=[(a.2.size:Int),1]) hD ha ht q (by unfold wgt;rw [if_pos c0];rfl)⟩⟩
   ·rintro H2 ⟨ht,e2⟩
    rw [List.length_map] at ht
    exact fin hD ht e2
  have c:¬ (n:Int)=0:=fun q=>c (beq_iff_eq.mpr q)
  have c0:¬ n=0:=by omega
  refine ⟨_,rfl,rfl,_,rfl,?_⟩
  rw [dec_int]
  refine ite2 (fun c=>?_) (fun c=>?_)
  ·have c:(n:Int)=1:=beq_iff_eq.mp c
   have c1:n=1:=by omega
   refine ⟨_,rfl,l1,rfl,⟨_,SqL.of h1⟩,fun D hD=>?_⟩
   refine lc_list (xs:=L'.map fun x=>V.ref x.1) (fun i H'=>Tups H' D ((L'.take i).map fun x=>pairRow (wgt s n x.2))∧∀ x,H1 x≠none→H' x=H1 x) ⟨Tups.nil upd_same,al hD⟩ ?_ ?_ ?_
   ·rintro i H' _ ⟨_,q⟩
    exact SqL.of (ks q h1)
   ·rintro i x H' hx ⟨ht,q⟩
    rw [List.getElem?_map] at hx
    obtain ⟨a,ha,rfl⟩:=Option.map_eq_some_iff.mp hx
    have ho:=(R1.kept q).pcs.obs a (hp.mem_iff.mp (List.mem_of_getElem? ha))
    exact ⟨rfl,_,rfl,rd_fld T.fd_Piece_size ho rfl ⟨_,rfl,rd_fld T.fd_Piece_size ho rfl ⟨slN 2,step (v:=[(a.2.size:Int),(a.2.size:Int)]) hD ha ht q (by unfold wgt;rw [if_neg c0,if_pos c1];rfl)⟩⟩⟩
   ·rintro H2 ⟨ht,e2⟩
    rw [List.length_map] at ht
    exact fin hD ht e2
  have c:¬ (n:Int)=1:=fun q=>c (beq_iff_eq.mpr q)
  have c1:¬ n=1:=by omega
  refine ⟨_,rfl,l1,rfl,⟨_,SqL.of h1⟩,fun D hD=>?_⟩
  refine lc_list (xs:=L'.map fun x=>V.ref x.1) (fun i H'=>Tups H' D ((L'.take i).map fun x=>pairRow (wgt s n x.2))∧∀ x,H1 x≠none→H' x=H1 x) ⟨Tups.nil upd_same,al hD⟩ ?_ ?_ ?_
  ·rintro i H' _ ⟨_,q⟩
   exact SqL.of (ks q h1)
  ·rintro i x H' hx ⟨ht,q⟩
   rw [List.getElem?_map] at hx
   obtain ⟨a,ha,rfl⟩:=Option.map_eq_some_iff.mp hx
   have haL:=hp.mem_iff.mp (List.mem_of_getElem? ha)
   have Rq:=R1.kept q
   have ho:=Rq.pcs.obs a haL
   have hb:=R.good.born a.2 (R.live.mem_iff.mp (List.mem_map.mpr ⟨a,haL,rfl⟩))
   refine ⟨rfl,_,rfl,rd_fld T.fd_Book_time Rq.ob rfl ⟨_,rfl,rd_fld T.fd_Piece_born ho rfl ⟨_,_,rfl,rfl,slN 2,step (v:=[(s.time:Int) - (a.2.born:Int),1]) hD ha ht q ?_⟩⟩⟩
   unfold wgt
   rw [if_neg c0,if_neg c1]
   show _=[((s.time - a.2.born:Nat):Int),1]
   rw [show ((s.time - a.2.born:Nat):Int)=(s.time:Int) - (a.2.born:Int) from by omega]
  ·rintro H2 ⟨ht,e2⟩
   rw [List.length_map] at ht
   exact fin hD ht e2
def sp_Book_share (A:Adr):Sp:=fun vs H Q _=>∃ (b:Addr) (B:Bd) (s:State) (n p:Nat),vs=[.ref b,.int n,.int p]∧BookAt A H b B s∧Ends A H b B s (.share n p) Q
theorem sc_Book_share:FnScope ["self","what","p","least"] ["self","what","p"] (defScope s_Book_share):=⟨rfl,rfl,rfl,by decide +kernel,rfl,by decide +kernel,by decide +kernel⟩
theorem ok_Book_share (T:Txt K mg A):FnOk P w K mg base CX0 3 A.f_Book_share A.d_Book_share ["self","what","p"] (sp_Book_share A):=by
 refine (T.m_Book_share.fn).ok sc_Book_share (fun vs H Q E h=>?_) (fun cdv AA outer s H vs Q E hr h=>?_)
 ·obtain ⟨b,B,s,n,p,rfl,_⟩:=h
  rfl
 ·obtain ⟨b,B,s,n,p,rfl,R,k⟩:=h
  refine ⟨_,(pss_cons (ps_if (pw_or (pt_not (pt_val (pe_call (ok_within T) (hr.mono (by decide)) (by rfl) T.u_within.mg T.u_within.kp T.u_within.bi .nil pass0 (pa_cons (pv 1) (pa_cons (pe_gint T.g_PIECES_BY_AGE) pa_nil))))) (pw_or1 (pt_not (pt_chain op_le op_le pe_int (pv 2) (pe_gint T.g_WHOLE))))).pt
    (pss_one (ps_ret (pe_lst (pa_cons (pe_gint T.g_OUT_OF_RANGE) pa_nil))))
    pss_nil)
   (pss_cons (ps_set (i:=3) sc_Book_share.nd rfl (Or.inl rfl) (pe_call (ok_least_reaching T) (hr.mono (by decide)) (by rfl) T.u_least_reaching.mg T.u_least_reaching.kp T.u_least_reaching.bi .nil pass0 (pa_cons (pe_meth (pv 0) T.cl_Book T.m_Book_weighed.me (ok_Book_weighed T) (hr.mono (by decide)) T.m_Book_weighed.bi .nil pass0 (pa_cons (pv 1) pa_nil)) (pa_cons (pv 2) pa_nil))))
   (pss_one (ps_ret (pe_ifExp (pt_cmpR op_eq (pv 3) (pe_gint T.g_NOT_THERE) (nomark _)) (pe_lst (pa_cons (pv 3) pa_nil)) (pe_lst (pa_cons pe_int (pa_cons (pv 3) pa_nil)))))))),?_⟩
  refine ⟨_,rfl,n,2,rfl,_,rfl,ite2 (fun c=>iteT (by first | exact c | rfl) ?_) (fun c=>?_)⟩
  ·have c:=nwT c
   exact k.same R (congrArg (Prod.mk s) (if_pos (.inl (by omega))))
  have c1:=nwF c
  refine ⟨_,rfl,_,_,rfl,rfl,_,rfl,ite2 (fun h1=>?_) (fun h1=>?_)⟩
  case refine_2 =>
   have h1:¬ (1:Int)≤(p:Int):=fun q=>h1 (decide_eq_true q)
   exact ⟨_,rfl,iteT rfl (k.same R (congrArg (Prod.mk s) (if_pos (.inr (.inl (by omega))))))⟩
  have h1:(1:Int)≤(p:Int):=of_decide_eq_true h1
  refine ⟨_,_,rfl,rfl,_,rfl,ite2 (fun c=>?_) (fun c=>?_)⟩
  ·rw [Bool.not_eq_true',decide_eq_false_iff_not] at c
   exact k.same R (congrArg (Prod.mk s) (if_pos (.inr (.inr (by omega)))))
  rw [Bool.not_eq_true',decide_eq_false_iff_not,Classical.not_not] at c
  have hd0:does s (.share n p)=(s,if weight (Sh28.weighed s n)=0 then num (-4) else match shareOf (Sh28.weighed s n) p with
   | some v=>⟨0,[(v:Int)]⟩
   | none=>num (-4)):=congrArg (Prod.mk s) (if_neg (by omega))
  have hfew:=R.good.few
  refine ⟨_,rfl,rd_meth R.at_.ob (by decide +kernel) ⟨_,rfl,b,B,s,n,rfl,R,fun l1 H1 M g1 hM t1 e1=>?_⟩⟩
  have hP:(M.map (wgt s n)).Perm (Sh28.weighed s n):=hM.map _
  have t1:Tups H1 l1 ((M.map (wgt s n)).map pairRow):=by rw [List.map_map];exact t1
  have hMl:=hM.length_eq
  refine ⟨_,rfl,l1,M.map (wgt s n),p,rfl,t1,by rw [List.length_map];omega,by omega,by omega,fun H2 hw e2=>?_,fun H2 v hw hv e2=>?_⟩
  ·rw [weight_perm hP] at hw
   have hd:does s (.share n p)=(s,num (-4)):=by rw [hd0,if_pos hw]
   exact ⟨_,rfl,rfl,_,rfl,iteT (by decide) ⟨_,rfl,k.read1 R hd (kt e1 e2) rfl⟩⟩
  ·rw [weight_perm hP] at hw
   rw [share_perm hP] at hv
   have hd:does s (.share n p)=(s,⟨0,[(v:Int)]⟩):=by rw [hd0,if_neg hw,hv]
   refine ⟨_,rfl,rfl,_,rfl,iteF ?_ ⟨_,rfl,slN 2,fun r g3=>k.read R hd rfl (kb (kt e1 e2) g3) upd_same (kt (kt e1 e2) (al g3))⟩⟩
   rw [dec_int,beq_iff_eq]
   omega
def sp_Book_lines (A:Adr):Sp:=fun vs H Q _=>∃ (b:Addr) (B:Bd) (s:State) (n:Nat),vs=[.ref b,.int n]∧BookAt A H b B s∧Ends A H b B s (.lines n) Q
theorem sc_Book_lines:FnScope ["self","what","text","sign"] ["self","what"] (defScope s_Book_lines):=⟨rfl,rfl,rfl,by decide +kernel,rfl,by decide +kernel,by decide +kernel⟩
theorem ok_Book_lines (T:Txt K mg A):FnOk P w K mg base CX0 5 A.f_Book_lines A.d_Book_lines ["self","what"] (sp_Book_lines A):=by
 refine (T.m_Book_lines.fn).ok sc_Book_lines (fun vs H Q E h=>?_) (fun cdv AA outer s H vs Q E hr h=>?_)
 ·obtain ⟨b,B,s,n,rfl,_⟩:=h
  rfl
 ·obtain ⟨b,B,s,n,rfl,R,k⟩:=h
  refine ⟨_,(pss_cons (ps_if (pt_not (pt_val (pe_call (ok_within T) (hr.mono (by decide)) (by rfl) T.u_within.mg T.u_within.kp T.u_within.bi .nil pass0 (pa_cons (pv 1) (pa_cons (pe_gint T.g_OWN_MADE) pa_nil)))))
    (pss_one (ps_ret (pe_lst (pa_cons (pe_gint T.g_OUT_OF_RANGE) pa_nil))))
    pss_nil)
   (pss_cons (ps_set (i:=2) sc_Book_lines.nd rfl (Or.inl rfl) (pe_meth (pe_fld (pv 0) rfl) T.cl_Ways T.m_Ways_text.me (ok_Ways_text T) (hr.mono (by decide)) T.m_Ways_text.bi .nil pass0 (pa_cons (pv 1) pa_nil)))
   (pss_cons (ps_if (pt_cmpR op_gt (pe_callB call_len_str (by rfl) T.b_len PySem.boot_len (pa_cons (pv 2) pa_nil)) (pe_gint T.g_MOST_TEXT) (nomark _))
    (pss_one (ps_ret (pe_lst (pa_cons (pe_gint T.g_FULL) pa_nil))))
    pss_nil)
   (pss_one (ps_ret (pe_op op_cat (pe_lst (pa_cons (pe_callB call_len_str (by rfl) T.b_len PySem.boot_len (pa_cons (pv 2) pa_nil)) pa_nil)) (pe_lc (own:=[("sign",3)]) (g:=(gName 3)) (te:=(tCB rOrd (tCons (tVar 3) tNil))) rfl sc_Book_lines.nd (pi_str (pv 2)) ⟨rfl,by decide +kernel,(show ∀ p∈([("sign",3)]:List (Str × Nat)),(["self","what","text","sign"]:List Str)[p.2]?=some p.1 by decide +kernel),(show ∀ y∈(_:List (Str × NameKind)),y.2=NameKind.free→(defScope s_Book_lines).names.lookup y.1=some NameKind.cell∨(defScope s_Book_lines).names.lookup y.1=some NameKind.free by decide +kernel),(show ∀ y∈(_:List (Str × NameKind)),y.2=NameKind.local∨y.2=NameKind.cell→y.1∈([("sign",3)]:List (Str × Nat)).map (·.1)∨y.1∉(["self","what","text","sign"]:List Str) by decide +kernel)⟩ (fun _ _ _ _ _=>(pg_name (i:=3) sc_Book_lines.nd rfl (Or.inl rfl))) (fun _ _ _ _ _=>pts_nil) (fun _ _ _ _ _=>(pe_callB call_ord (by rfl) T.b_ord boot_ord (pa_cons (pv 3) pa_nil)))))))))),?_⟩
  have hsl:=PySem.sizeLine_eq
  refine ⟨_,rfl,n,1,rfl,_,rfl,ite2 (fun c=>?_) (fun c=>?_)⟩
  ·have c:=nwT c
   exact k.same R (congrArg (Prod.mk s) (if_pos (by omega)))
  have c1:=nwF c
  have hd0:does s (.lines n)=(s,if Sh28.TEXT<(textOf s n).length then num (-6) else ⟨((textOf s n).length:Nat),Sh28.ints (textOf s n)⟩):=congrArg (Prod.mk s) (if_neg (by omega))
  refine ⟨_,rfl,rd_fld T.fd_Book_ways R.at_.ob rfl (rd_meth R.at_.ways.ob (by decide +kernel) ⟨_,rfl,B.wy,B.nl,B.sd,B.as,s,numOf s,n,rfl,R.at_.ways,R.good.wf,fun j _=>much_lt R.good (by omega) j,fun t H1 ht e1=>?_⟩)⟩
  rw [text_eq] at ht
  have hlen:t.length=(textOf s n).length:=by rw [TL.len_tl,ht]
  have hbig:(textOf s n).length≤410 * s.nodes.length:=text_len R.good (by omega)
  have hnf:=R.good.wf.few
  have hle:t.length≤sizeLine:=by omega
  refine ⟨_,rfl,t,rfl,hle,_,_,rfl,rfl,_,rfl,ite2 (fun c=>?_) (fun c=>?_)⟩
  ·have c:(1048576:Int)<(t.length:Int):=of_decide_eq_true c
   have hd:does s (.lines n)=(s,num (-6)):=by rw [hd0,if_pos (by show 1048576<_;omega)]
   exact k.read1 R hd e1 rfl
  have c:¬ (1048576:Int)<(t.length:Int):=fun q=>c (decide_eq_true q)
  have hd:does s (.lines n)=(s,⟨((textOf s n).length:Nat),Sh28.ints (textOf s n)⟩):=by rw [hd0,if_neg (by show ¬ 1048576<_;omega)]
  refine ⟨_,rfl,t,rfl,hle,slN 1,fun l1 g1=>?_⟩
  have e2:=al (o:=.lst [.int (t.length:Nat)]) g1
  have h2:upd H1 l1 (.lst [.int (t.length:Nat)]) l1=_:=upd_same
  generalize upd H1 l1 (.lst [.int (t.length:Nat)])=H2 at e2 h2 ⊢
  refine ⟨_,rfl,t,rfl,fun D hD=>?_⟩
  have hsz:t.cps.size=t.length:=rfl
  refine lc_str (fun i H'=>(∀ x,H2 x≠none→H' x=H2 x)∧H' D=some (.lst (((TL.tl t).take i).map fun (c:Nat)=>V.int (c:Int)))) ⟨al hD,upd_same⟩ ?_ ?_
  ·rintro i c H' hc ⟨q1,q2⟩
   have hc2:(TL.tl t)[i]?=some c:=by show t.cps.toList[i]?=_;rw [Array.getElem?_toList];exact hc
   have hi:=(Array.getElem?_eq_some_iff.mp hc).1
   refine ⟨rfl,_,rfl,⟨#[c]⟩,rfl,rfl,_,q2,by rw [List.length_map,List.length_take];omega,fun x hx=>?_,?_⟩
   ·rw [upd_ne (fun e=>hx (by rw [e];exact hD)),q1 x hx]
   ·rw [upd_same,List.take_add_one,hc2,List.map_append];rfl
  ·rintro H3 ⟨e3,h3⟩
   rw [List.take_of_length_le (by rw [hsz,TL.len_tl];exact Nat.le_refl _),ht] at h3
   refine ⟨l1,D,_,_,rfl,rfl,ks e3 h2,h3,by rw [List.length_map];show 1+_≤_;omega,fun r g4=>?_⟩
   have k3:=kt e1 (kt e2 e3)
   refine k.read R hd rfl (kb k3 g4) ?_ (kt k3 (al g4))
   rw [upd_same,hlen]
   unfold Sh28.ints
   rw [List.map_cons,List.map_map];rfl
end
end Bk
namespace Bk
open Sh28
inductive CallN:Nat→List Nat→Call→Prop
 | begin_:CallN 0 [] (Call.begin_)
 | enter (a:Nat):CallN 1 [a] (.enter a)
 | leave:CallN 2 [] (Call.leave)
 | unwind (a:Nat):CallN 3 [a] (.unwind a)
 | tick (a:Nat):CallN 4 [a] (.tick a)
 | made (a:Nat) (b:Nat):CallN 5 [a,b] (.made a b)
 | went (a:Nat):CallN 6 [a] (.went a)
 | moved (a:Nat) (b:Nat) (c:Nat):CallN 7 [a,b,c] (.moved a b c)
 | now:CallN 8 [] (Call.now)
 | node (a:Nat):CallN 9 [a] (.node a)
 | find (ws:List Nat):CallN 10 ws (.find ws)
 | path (a:Nat):CallN 11 [a] (.path a)
 | sizes:CallN 12 [] (Call.sizes)
 | ages:CallN 13 [] (Call.ages)
 | oldest (a:Nat):CallN 14 [a] (.oldest a)
 | top (a:Nat) (b:Nat):CallN 15 [a,b] (.top a b)
 | mark:CallN 16 [] (Call.mark)
 | since (a:Nat):CallN 17 [a] (.since a)
 | holds (a:Nat):CallN 18 [a] (.holds a)
 | share (a:Nat) (b:Nat):CallN 19 [a,b] (.share a b)
 | pick (a:Nat):CallN 20 [a] (.pick a)
 | picked:CallN 21 [] (Call.picked)
 | lines (a:Nat):CallN 22 [a] (.lines a)
def nbL:List Nat:=[0,1,0,1,1,2,1,3,0,1,0,1,0,0,1,2,0,1,1,2,1,0,1]
def intsN (l:List Nat):List Int:=l.map fun (x:Nat)=>(x:Int)
def ReadAs (n:Nat) (r:List Int) (c:List (List Int)) (t:List Int):Prop:=∃ gs x,CallN n gs x∧Sh28Neutral.callOf (PySh28.whole c)=some x∧((n=10∧r=(gs.length:Int)::(intsN gs++t))∨(n≠10∧nbL[n]?=some gs.length∧r=intsN gs++t))
theorem nat64 {x:Int} (h:Sh28Neutral.natural x 64=true):((x.toNat:Nat):Int)=x:=by
 unfold Sh28Neutral.natural at h
 rw [Bool.and_eq_true,decide_eq_true_eq] at h
 omega
theorem nats64:∀ {l:List Int},(l.all fun z=>Sh28Neutral.natural z 64)=true→intsN (Sh28Neutral.nats l)=l
 | [],_=>rfl
 | x::l,h=>by
  rw [List.all_cons,Bool.and_eq_true] at h
  show ((x.toNat:Nat):Int)::intsN (Sh28Neutral.nats l)=_
  rw [nat64 h.1,nats64 h.2]
theorem st_0 {r:List Int}{c:List (List Int)}{t:List Int} (h:PyFlat.call PySh28.shape (0::r)=some (c,t)) (ha:Sh28Neutral.asked1 (PySh28.whole c)=true):ReadAs 0 r c t:=by
 simp [PyFlat.call,PySh28.shape,PyFlat.rows] at h
 obtain ⟨rfl,rfl⟩:=h
 exact ⟨[],_,.begin_,rfl,.inr ⟨by decide,rfl,rfl⟩⟩
theorem st_1 {r:List Int}{c:List (List Int)}{t:List Int} (h:PyFlat.call PySh28.shape (1::r)=some (c,t)) (ha:Sh28Neutral.asked1 (PySh28.whole c)=true):ReadAs 1 r c t:=by
 cases r with
 | nil=>simp [PyFlat.call,PySh28.shape,PyFlat.rows] at h
 | cons x r =>
  simp [PyFlat.call,PySh28.shape,PyFlat.rows] at h
  obtain ⟨rfl,rfl⟩:=h
  have h1:=nat64 (show Sh28Neutral.natural x 64=true from ha)
  refine ⟨[x.toNat],_,.enter _,rfl,.inr ⟨by decide,rfl,?_⟩⟩
  show _=((x.toNat:Nat):Int)::r
  rw [h1]
theorem st_2 {r:List Int}{c:List (List Int)}{t:List Int} (h:PyFlat.call PySh28.shape (2::r)=some (c,t)) (ha:Sh28Neutral.asked1 (PySh28.whole c)=true):ReadAs 2 r c t:=by
 simp [PyFlat.call,PySh28.shape,PyFlat.rows] at h
 obtain ⟨rfl,rfl⟩:=h
 exact ⟨[],_,.leave,rfl,.inr ⟨by decide,rfl,rfl⟩⟩
theorem st_3 {r:List Int}{c:List (List Int)}{t:List Int} (h:PyFlat.call PySh28.shape (3::r)=some (c,t)) (ha:Sh28Neutral.asked1 (PySh28.whole c)=true):ReadAs 3 r c t:=by
 cases r with
 | nil=>simp [PyFlat.call,PySh28.shape,PyFlat.rows] at h
 | cons x r =>
  simp [PyFlat.call,PySh28.shape,PyFlat.rows] at h
  obtain ⟨rfl,rfl⟩:=h
  have h1:=nat64 (show Sh28Neutral.natural x 64=true from ha)
  refine ⟨[x.toNat],_,.unwind _,rfl,.inr ⟨by decide,rfl,?_⟩⟩
  show _=((x.toNat:Nat):Int)::r
  rw [h1]
theorem st_4 {r:List Int}{c:List (List Int)}{t:List Int} (h:PyFlat.call PySh28.shape (4::r)=some (c,t)) (ha:Sh28Neutral.asked1 (PySh28.whole c)=true):ReadAs 4 r c t:=by
 cases r with
 | nil=>simp [PyFlat.call,PySh28.shape,PyFlat.rows] at h
 | cons x r =>
  simp [PyFlat.call,PySh28.shape,PyFlat.rows] at h
  obtain ⟨rfl,rfl⟩:=h
  have h1:=nat64 (show Sh28Neutral.natural x 64=true from ha)
  refine ⟨[x.toNat],_,.tick _,rfl,.inr ⟨by decide,rfl,?_⟩⟩
  show _=((x.toNat:Nat):Int)::r
  rw [h1]
theorem st_5 {r:List Int}{c:List (List Int)}{t:List Int} (h:PyFlat.call PySh28.shape (5::r)=some (c,t)) (ha:Sh28Neutral.asked1 (PySh28.whole c)=true):ReadAs 5 r c t:=by
 cases r with
 | nil=>simp [PyFlat.call,PySh28.shape,PyFlat.rows] at h
 | cons x r =>
  cases r with
  | nil=>simp [PyFlat.call,PySh28.shape,PyFlat.rows] at h
  | cons y r =>
   simp [PyFlat.call,PySh28.shape,PyFlat.rows] at h
   obtain ⟨rfl,rfl⟩:=h
   have ha:(Sh28Neutral.natural x 64 && Sh28Neutral.natural y 64)=true:=ha
   rw [Bool.and_eq_true] at ha
   have h1:=nat64 ha.1
   have h2:=nat64 ha.2
   refine ⟨[x.toNat,y.toNat],_,.made _ _,rfl,.inr ⟨by decide,rfl,?_⟩⟩
   show _=((x.toNat:Nat):Int)::((y.toNat:Nat):Int)::r
   rw [h1,h2]
theorem st_6 {r:List Int}{c:List (List Int)}{t:List Int} (h:PyFlat.call PySh28.shape (6::r)=some (c,t)) (ha:Sh28Neutral.asked1 (PySh28.whole c)=true):ReadAs 6 r c t:=by
 cases r with
 | nil=>simp [PyFlat.call,PySh28.shape,PyFlat.rows] at h
 | cons x r =>
  simp [PyFlat.call,PySh28.shape,PyFlat.rows] at h
  obtain ⟨rfl,rfl⟩:=h
  have h1:=nat64 (show Sh28Neutral.natural x 64=true from ha)
  refine ⟨[x.toNat],_,.went _,rfl,.inr ⟨by decide,rfl,?_⟩⟩
  show _=((x.toNat:Nat):Int)::r
  rw [h1]
theorem st_7 {r:List Int}{c:List (List Int)}{t:List Int} (h:PyFlat.call PySh28.shape (7::r)=some (c,t)) (ha:Sh28Neutral.asked1 (PySh28.whole c)=true):ReadAs 7 r c t:=by
 cases r with
 | nil=>simp [PyFlat.call,PySh28.shape,PyFlat.rows] at h
 | cons x r =>
  cases r with
  | nil=>simp [PyFlat.call,PySh28.shape,PyFlat.rows] at h
  | cons y r =>
   cases r with
   | nil=>simp [PyFlat.call,PySh28.shape,PyFlat.rows] at h
   | cons z r =>
    simp [PyFlat.call,PySh28.shape,PyFlat.rows] at h
    obtain ⟨rfl,rfl⟩:=h
    have ha:(Sh28Neutral.natural x 64 && (Sh28Neutral.natural y 64 && Sh28Neutral.natural z 64))=true:=ha
    rw [Bool.and_eq_true,Bool.and_eq_true] at ha
    have h1:=nat64 ha.1
    have h2:=nat64 ha.2.1
    have h3:=nat64 ha.2.2
    refine ⟨[x.toNat,y.toNat,z.toNat],_,.moved _ _ _,rfl,.inr ⟨by decide,rfl,?_⟩⟩
    show _=((x.toNat:Nat):Int)::((y.toNat:Nat):Int)::((z.toNat:Nat):Int)::r
    rw [h1,h2,h3]
theorem st_8 {r:List Int}{c:List (List Int)}{t:List Int} (h:PyFlat.call PySh28.shape (8::r)=some (c,t)) (ha:Sh28Neutral.asked1 (PySh28.whole c)=true):ReadAs 8 r c t:=by
 simp [PyFlat.call,PySh28.shape,PyFlat.rows] at h
 obtain ⟨rfl,rfl⟩:=h
 exact ⟨[],_,.now,rfl,.inr ⟨by decide,rfl,rfl⟩⟩
theorem st_9 {r:List Int}{c:List (List Int)}{t:List Int} (h:PyFlat.call PySh28.shape (9::r)=some (c,t)) (ha:Sh28Neutral.asked1 (PySh28.whole c)=true):ReadAs 9 r c t:=by
 cases r with
 | nil=>simp [PyFlat.call,PySh28.shape,PyFlat.rows] at h
 | cons x r =>
  simp [PyFlat.call,PySh28.shape,PyFlat.rows] at h
  obtain ⟨rfl,rfl⟩:=h
  have h1:=nat64 (show Sh28Neutral.natural x 64=true from ha)
  refine ⟨[x.toNat],_,.node _,rfl,.inr ⟨by decide,rfl,?_⟩⟩
  show _=((x.toNat:Nat):Int)::r
  rw [h1]
theorem st_10 {r:List Int}{c:List (List Int)}{t:List Int} (h:PyFlat.call PySh28.shape (10::r)=some (c,t)) (ha:Sh28Neutral.asked1 (PySh28.whole c)=true):ReadAs 10 r c t:=by
 cases r with
 | nil=>simp [PyFlat.call,PySh28.shape,PyFlat.rows,PyFlat.row] at h
 | cons y r =>
  have hr:PyFlat.rows 1 (y::r)=if 0≤y∧y.toNat≤r.length then some ([r.take y.toNat],r.drop y.toNat) else none:=by
   by_cases hy:0≤y∧y.toNat≤r.length
   ·have e:PyFlat.row (y::r)=some (r.take y.toNat,r.drop y.toNat):=if_pos hy
    unfold PyFlat.rows;rw [e,if_pos hy];rfl
   ·have e:PyFlat.row (y::r)=none:=if_neg hy
    unfold PyFlat.rows;rw [e,if_neg hy]
  have hc:PyFlat.call PySh28.shape (10::y::r)=match PyFlat.rows 1 (y::r) with
   | none=>none
   | some (xs,t)=>some ([10]::xs,t):=rfl
  rw [hc,hr] at h
  by_cases hy:0≤y∧y.toNat≤r.length
  ·rw [if_pos hy] at h
   simp only [Option.some.injEq,Prod.mk.injEq] at h
   obtain ⟨rfl,rfl⟩:=h
   have ha:((r.take y.toNat).all fun z=>Sh28Neutral.natural z 64)=true:=ha
   have e:=nats64 ha
   have hl:(Sh28Neutral.nats (r.take y.toNat)).length=y.toNat:=by unfold Sh28Neutral.nats;rw [List.length_map,List.length_take];omega
   refine ⟨Sh28Neutral.nats (r.take y.toNat),_,.find _,rfl,.inl ⟨rfl,?_⟩⟩
   rw [e,List.take_append_drop,hl]
   congr 1
   omega
  ·rw [if_neg hy] at h;cases h
theorem st_11 {r:List Int}{c:List (List Int)}{t:List Int} (h:PyFlat.call PySh28.shape (11::r)=some (c,t)) (ha:Sh28Neutral.asked1 (PySh28.whole c)=true):ReadAs 11 r c t:=by
 cases r with
 | nil=>simp [PyFlat.call,PySh28.shape,PyFlat.rows] at h
 | cons x r =>
  simp [PyFlat.call,PySh28.shape,PyFlat.rows] at h
  obtain ⟨rfl,rfl⟩:=h
  have h1:=nat64 (show Sh28Neutral.natural x 64=true from ha)
  refine ⟨[x.toNat],_,.path _,rfl,.inr ⟨by decide,rfl,?_⟩⟩
  show _=((x.toNat:Nat):Int)::r
  rw [h1]
theorem st_12 {r:List Int}{c:List (List Int)}{t:List Int} (h:PyFlat.call PySh28.shape (12::r)=some (c,t)) (ha:Sh28Neutral.asked1 (PySh28.whole c)=true):ReadAs 12 r c t:=by
 simp [PyFlat.call,PySh28.shape,PyFlat.rows] at h
 obtain ⟨rfl,rfl⟩:=h
 exact ⟨[],_,.sizes,rfl,.inr ⟨by decide,rfl,rfl⟩⟩
theorem st_13 {r:List Int}{c:List (List Int)}{t:List Int} (h:PyFlat.call PySh28.shape (13::r)=some (c,t)) (ha:Sh28Neutral.asked1 (PySh28.whole c)=true):ReadAs 13 r c t:=by
 simp [PyFlat.call,PySh28.shape,PyFlat.rows] at h
 obtain ⟨rfl,rfl⟩:=h
 exact ⟨[],_,.ages,rfl,.inr ⟨by decide,rfl,rfl⟩⟩
theorem st_14 {r:List Int}{c:List (List Int)}{t:List Int} (h:PyFlat.call PySh28.shape (14::r)=some (c,t)) (ha:Sh28Neutral.asked1 (PySh28.whole c)=true):ReadAs 14 r c t:=by
 cases r with
 | nil=>simp [PyFlat.call,PySh28.shape,PyFlat.rows] at h
 | cons x r =>
  simp [PyFlat.call,PySh28.shape,PyFlat.rows] at h
  obtain ⟨rfl,rfl⟩:=h
  have h1:=nat64 (show Sh28Neutral.natural x 64=true from ha)
  refine ⟨[x.toNat],_,.oldest _,rfl,.inr ⟨by decide,rfl,?_⟩⟩
  show _=((x.toNat:Nat):Int)::r
  rw [h1]
theorem st_15 {r:List Int}{c:List (List Int)}{t:List Int} (h:PyFlat.call PySh28.shape (15::r)=some (c,t)) (ha:Sh28Neutral.asked1 (PySh28.whole c)=true):ReadAs 15 r c t:=by
 cases r with
 | nil=>simp [PyFlat.call,PySh28.shape,PyFlat.rows] at h
 | cons x r =>
  cases r with
  | nil=>simp [PyFlat.call,PySh28.shape,PyFlat.rows] at h
  | cons y r =>
   simp [PyFlat.call,PySh28.shape,PyFlat.rows] at h
   obtain ⟨rfl,rfl⟩:=h
   have ha:(Sh28Neutral.natural x 64 && Sh28Neutral.natural y 64)=true:=ha
   rw [Bool.and_eq_true] at ha
   have h1:=nat64 ha.1
   have h2:=nat64 ha.2
   refine ⟨[x.toNat,y.toNat],_,.top _ _,rfl,.inr ⟨by decide,rfl,?_⟩⟩
   show _=((x.toNat:Nat):Int)::((y.toNat:Nat):Int)::r
   rw [h1,h2]
theorem st_16 {r:List Int}{c:List (List Int)}{t:List Int} (h:PyFlat.call PySh28.shape (16::r)=some (c,t)) (ha:Sh28Neutral.asked1 (PySh28.whole c)=true):ReadAs 16 r c t:=by
 simp [PyFlat.call,PySh28.shape,PyFlat.rows] at h
 obtain ⟨rfl,rfl⟩:=h
 exact ⟨[],_,.mark,rfl,.inr ⟨by decide,rfl,rfl⟩⟩
theorem st_17 {r:List Int}{c:List (List Int)}{t:List Int} (h:PyFlat.call PySh28.shape (17::r)=some (c,t)) (ha:Sh28Neutral.asked1 (PySh28.whole c)=true):ReadAs 17 r c t:=by
 cases r with
 | nil=>simp [PyFlat.call,PySh28.shape,PyFlat.rows] at h
 | cons x r =>
  simp [PyFlat.call,PySh28.shape,PyFlat.rows] at h
  obtain ⟨rfl,rfl⟩:=h
  have h1:=nat64 (show Sh28Neutral.natural x 64=true from ha)
  refine ⟨[x.toNat],_,.since _,rfl,.inr ⟨by decide,rfl,?_⟩⟩
  show _=((x.toNat:Nat):Int)::r
  rw [h1]
theorem st_18 {r:List Int}{c:List (List Int)}{t:List Int} (h:PyFlat.call PySh28.shape (18::r)=some (c,t)) (ha:Sh28Neutral.asked1 (PySh28.whole c)=true):ReadAs 18 r c t:=by
 cases r with
 | nil=>simp [PyFlat.call,PySh28.shape,PyFlat.rows] at h
 | cons x r =>
  simp [PyFlat.call,PySh28.shape,PyFlat.rows] at h
  obtain ⟨rfl,rfl⟩:=h
  have h1:=nat64 (show Sh28Neutral.natural x 64=true from ha)
  refine ⟨[x.toNat],_,.holds _,rfl,.inr ⟨by decide,rfl,?_⟩⟩
  show _=((x.toNat:Nat):Int)::r
  rw [h1]
theorem st_19 {r:List Int}{c:List (List Int)}{t:List Int} (h:PyFlat.call PySh28.shape (19::r)=some (c,t)) (ha:Sh28Neutral.asked1 (PySh28.whole c)=true):ReadAs 19 r c t:=by
 cases r with
 | nil=>simp [PyFlat.call,PySh28.shape,PyFlat.rows] at h
 | cons x r =>
  cases r with
  | nil=>simp [PyFlat.call,PySh28.shape,PyFlat.rows] at h
  | cons y r =>
   simp [PyFlat.call,PySh28.shape,PyFlat.rows] at h
   obtain ⟨rfl,rfl⟩:=h
   have ha:(Sh28Neutral.natural x 64 && Sh28Neutral.natural y 64)=true:=ha
   rw [Bool.and_eq_true] at ha
   have h1:=nat64 ha.1
   have h2:=nat64 ha.2
   refine ⟨[x.toNat,y.toNat],_,.share _ _,rfl,.inr ⟨by decide,rfl,?_⟩⟩
   show _=((x.toNat:Nat):Int)::((y.toNat:Nat):Int)::r
   rw [h1,h2]
theorem st_20 {r:List Int}{c:List (List Int)}{t:List Int} (h:PyFlat.call PySh28.shape (20::r)=some (c,t)) (ha:Sh28Neutral.asked1 (PySh28.whole c)=true):ReadAs 20 r c t:=by
 cases r with
 | nil=>simp [PyFlat.call,PySh28.shape,PyFlat.rows] at h
 | cons x r =>
  simp [PyFlat.call,PySh28.shape,PyFlat.rows] at h
  obtain ⟨rfl,rfl⟩:=h
  have h1:=nat64 (show Sh28Neutral.natural x 64=true from ha)
  refine ⟨[x.toNat],_,.pick _,rfl,.inr ⟨by decide,rfl,?_⟩⟩
  show _=((x.toNat:Nat):Int)::r
  rw [h1]
theorem st_21 {r:List Int}{c:List (List Int)}{t:List Int} (h:PyFlat.call PySh28.shape (21::r)=some (c,t)) (ha:Sh28Neutral.asked1 (PySh28.whole c)=true):ReadAs 21 r c t:=by
 simp [PyFlat.call,PySh28.shape,PyFlat.rows] at h
 obtain ⟨rfl,rfl⟩:=h
 exact ⟨[],_,.picked,rfl,.inr ⟨by decide,rfl,rfl⟩⟩
theorem st_22 {r:List Int}{c:List (List Int)}{t:List Int} (h:PyFlat.call PySh28.shape (22::r)=some (c,t)) (ha:Sh28Neutral.asked1 (PySh28.whole c)=true):ReadAs 22 r c t:=by
 cases r with
 | nil=>simp [PyFlat.call,PySh28.shape,PyFlat.rows] at h
 | cons x r =>
  simp [PyFlat.call,PySh28.shape,PyFlat.rows] at h
  obtain ⟨rfl,rfl⟩:=h
  have h1:=nat64 (show Sh28Neutral.natural x 64=true from ha)
  refine ⟨[x.toNat],_,.lines _,rfl,.inr ⟨by decide,rfl,?_⟩⟩
  show _=((x.toNat:Nat):Int)::r
  rw [h1]
theorem shape_no {p:Int} (h:¬ (0≤p∧p≤22)):PySh28.shape p=none:=by
 unfold PySh28.shape
 repeat rw [if_neg (by omega)]
theorem read_as {p:Int}{r:List Int}{c:List (List Int)}{t:List Int} (h:PyFlat.call PySh28.shape (p::r)=some (c,t)) (ha:Sh28Neutral.asked1 (PySh28.whole c)=true):∃ n:Nat,p=n∧n≤22∧ReadAs n r c t:=by
 by_cases hp:0≤p∧p≤22
 ·obtain ⟨n,rfl⟩:∃ n:Nat,p=n:=⟨p.toNat,by omega⟩
  have hn:n≤22:=by omega
  refine ⟨n,rfl,hn,?_⟩
  match n,hn,h with
  | 0,_,h=>exact st_0 h ha
  | 1,_,h=>exact st_1 h ha
  | 2,_,h=>exact st_2 h ha
  | 3,_,h=>exact st_3 h ha
  | 4,_,h=>exact st_4 h ha
  | 5,_,h=>exact st_5 h ha
  | 6,_,h=>exact st_6 h ha
  | 7,_,h=>exact st_7 h ha
  | 8,_,h=>exact st_8 h ha
  | 9,_,h=>exact st_9 h ha
  | 10,_,h=>exact st_10 h ha
  | 11,_,h=>exact st_11 h ha
  | 12,_,h=>exact st_12 h ha
  | 13,_,h=>exact st_13 h ha
  | 14,_,h=>exact st_14 h ha
  | 15,_,h=>exact st_15 h ha
  | 16,_,h=>exact st_16 h ha
  | 17,_,h=>exact st_17 h ha
  | 18,_,h=>exact st_18 h ha
  | 19,_,h=>exact st_19 h ha
  | 20,_,h=>exact st_20 h ha
  | 21,_,h=>exact st_21 h ha
  | 22,_,h=>exact st_22 h ha
 ·rw [show PyFlat.call PySh28.shape (p::r)=none from by simp only [PyFlat.call,shape_no hp]] at h
  cases h
end Bk
namespace Bk
open PySem L2
open Sh28 (State begun Call does)
section
variable {A:Adr}{H H':Hp}{b:Addr}{B:Bd}{s:State}
theorem At.lsT {D:Dt} (R:At A H b B D) {m:Addr} (h:m∈B.ls):tg (H m)=.ls:=by
 obtain ⟨i,hi⟩:=List.getElem?_of_mem h
 rcases Nat.lt_or_ge i 7 with h7 | h7
 ·match i,h7 with
  | 0,_=>cases hi;exact tg_ls R.ways.lst
  | 1,_=>cases hi;exact tg_ls R.pcs.lst
  | 2,_=>cases hi;exact tg_ls R.rows.h1
  | 3,_=>cases hi;exact tg_ls R.rows.h2
  | 4,_=>cases hi;exact tg_ls R.rows.h3
  | 5,_=>cases hi;exact tg_ls R.rows.h4
  | 6,_=>cases hi;exact tg_ls R.mkl
 ·obtain ⟨j,rfl⟩:∃ j,i=j+7:=⟨i - 7,by omega⟩
  have hj:B.ms[j]?=some m:=hi
  have hjl:=(List.getElem?_eq_some_iff.mp hj).1
  obtain ⟨rr,hrr⟩:∃ rr,D.marks[j]?=some rr:=⟨_,List.getElem?_eq_getElem (by rw [← R.mkn];exact hjl)⟩
  obtain ⟨xs,hxs,_⟩:=(R.mks j m rr hj hrr).len
  exact tg_ls hxs
theorem begin_of {Q:VK}{E:XK} (R:BookAt A H b B s) (k:Ends A H b B s .begin_ Q):sp_Book_begin A [.ref b] H Q E:=by
 obtain ⟨dx,h⟩:=R.at_.ob
 have tb:=bk_tg R.at_
 refine ⟨b,rfl,⟨dx,.inr ⟨bkV B (dt s),rfl,h⟩⟩,fun r H' B' R' eL hr' hr F hl=>k r H' B' ⟨R'.full R.at_.bm R.at_.lt1 R.at_.lt2 R.at_.tn (by rw [tb];decide) (by rw [tb];decide) F,by rw [eL];exact List.Perm.refl _,good_begun⟩ hr' (fun x o e=>o.some (by rw [e];exact hr)) fun x o=>⟨F x o.some ?_,fun hx=>o.some (hl x hx)⟩⟩
 rcases o.1 with h | h
 ·exact tg_ne h tb
 ·exact tg_ne h tb
end
def natV (l:List Nat):List V:=l.map fun (n:Nat)=>V.int (n:Int)
def spAns (lo hi:Nat) (A:Adr):Sp:=fun vs H Q _=>∃ (b l:Addr) (B:Bd) (s:State) (n:Nat) (gs:List Nat) (c:Call),vs=[.ref b,.int n,.ref l]∧BookAt A H b B s∧H l=some (.lst (natV gs))∧gs.length≤16777216∧lo≤n∧n≤hi∧CallN n gs c∧Ends A H b B s c Q
section
variable {P:Program}{w:World}{K:PySem.W.Frag}{mg:Str→Option Value}{base:Heap}{A:Adr}
def sp_answer_to_change (A:Adr):Sp:=spAns 0 7 A
theorem sc_answer_to_change:FnScope ["book","call","given"] ["book","call","given"] (defScope s_answer_to_change):=⟨rfl,rfl,rfl,by decide +kernel,rfl,by decide +kernel,by decide +kernel⟩
theorem ok_answer_to_change (T:Txt K mg A):FnOk P w K mg base CX0 6 A.f_answer_to_change A.d_answer_to_change ["book","call","given"] (sp_answer_to_change A):=by
 refine (T.u_answer_to_change.fn).ok sc_answer_to_change (fun vs H Q E h=>?_) (fun cdv AA outer s H vs Q E hr h=>?_)
 ·obtain ⟨b,l,B,s,n,gs,c,rfl,_⟩:=h
  rfl
 ·obtain ⟨b,l,B,s,n,gs,c,rfl,R,hl,hgl,hlo,hhi,hc,k⟩:=h
  refine ⟨_,(pss_cons (ps_if (pt_cmpR op_eq (pv 1) (pe_gint T.g_BEGIN) (nomark _))
    (pss_one (ps_ret (pe_meth0 (pv 0) T.cl_Book T.m_Book_begin.me (ok_Book_begin T) (hr.mono (by decide)) T.m_Book_begin.bi .nil pass0)))
    pss_nil)
   (pss_cons (ps_if (pt_cmpR op_eq (pv 1) (pe_gint T.g_ENTER) (nomark _))
    (pss_one (ps_ret (pe_meth (pv 0) T.cl_Book T.m_Book_enter.me (ok_Book_enter T) (hr.mono (by decide)) T.m_Book_enter.bi .nil pass0 (pa_cons (pe_ix ix_list (pv 2) pe_int (fun _ _=>rfl)) pa_nil))))
    pss_nil)
   (pss_cons (ps_if (pt_cmpR op_eq (pv 1) (pe_gint T.g_LEAVE) (nomark _))
    (pss_one (ps_ret (pe_meth0 (pv 0) T.cl_Book T.m_Book_leave.me (ok_Book_leave T) (hr.mono (by decide)) T.m_Book_leave.bi .nil pass0)))
    pss_nil)
   (pss_cons (ps_if (pt_cmpR op_eq (pv 1) (pe_gint T.g_UNWIND) (nomark _))
    (pss_one (ps_ret (pe_meth (pv 0) T.cl_Book T.m_Book_unwind.me (ok_Book_unwind T) (hr.mono (by decide)) T.m_Book_unwind.bi .nil pass0 (pa_cons (pe_ix ix_list (pv 2) pe_int (fun _ _=>rfl)) pa_nil))))
    pss_nil)
   (pss_cons (ps_if (pt_cmpR op_eq (pv 1) (pe_gint T.g_TICK) (nomark _))
    (pss_one (ps_ret (pe_meth (pv 0) T.cl_Book T.m_Book_tick.me (ok_Book_tick T) (hr.mono (by decide)) T.m_Book_tick.bi .nil pass0 (pa_cons (pe_ix ix_list (pv 2) pe_int (fun _ _=>rfl)) pa_nil))))
    pss_nil)
   (pss_cons (ps_if (pt_cmpR op_eq (pv 1) (pe_gint T.g_MADE) (nomark _))
    (pss_one (ps_ret (pe_meth (pv 0) T.cl_Book T.m_Book_made.me (ok_Book_made T) (hr.mono (by decide)) T.m_Book_made.bi .nil pass0 (pa_cons (pe_ix ix_list (pv 2) pe_int (fun _ _=>rfl)) (pa_cons (pe_ix ix_list (pv 2) pe_int (fun _ _=>rfl)) pa_nil)))))
    pss_nil)
   (pss_cons (ps_if (pt_cmpR op_eq (pv 1) (pe_gint T.g_WENT) (nomark _))
    (pss_one (ps_ret (pe_meth (pv 0) T.cl_Book T.m_Book_went.me (ok_Book_went T) (hr.mono (by decide)) T.m_Book_went.bi .nil pass0 (pa_cons (pe_ix ix_list (pv 2) pe_int (fun _ _=>rfl)) pa_nil))))
    pss_nil)
   (pss_one (ps_ret (pe_meth (pv 0) T.cl_Book T.m_Book_moved.me (ok_Book_moved T) (hr.mono (by decide)) T.m_Book_moved.bi .nil pass0 (pa_cons (pe_ix ix_list (pv 2) pe_int (fun _ _=>rfl)) (pa_cons (pe_ix ix_list (pv 2) pe_int (fun _ _=>rfl)) (pa_cons (pe_ix ix_list (pv 2) pe_int (fun _ _=>rfl)) pa_nil))))))))))))),?_⟩
  cases hc with
  | begin_=>exact ⟨_,rfl,rfl,_,rfl,iteT (by decide) ⟨_,rfl,rd_meth R.at_.ob (by decide +kernel) (begin_of (E:=E0) R k)⟩⟩
  | enter x=>exact ⟨_,rfl,rfl,_,rfl,iteF (by decide) ⟨_,rfl,rfl,_,rfl,iteT (by decide) ⟨_,rfl,rd_meth R.at_.ob (by decide +kernel) ⟨_,rfl,l,_,_,_,rfl,rfl,SqL.of hl,atI_nat (j:=0) rfl,b,B,s,x,rfl,R,k⟩⟩⟩⟩
  | leave=>exact ⟨_,rfl,rfl,_,rfl,iteF (by decide) ⟨_,rfl,rfl,_,rfl,iteF (by decide) ⟨_,rfl,rfl,_,rfl,iteT (by decide) ⟨_,rfl,rd_meth R.at_.ob (by decide +kernel) ⟨b,B,s,rfl,R,k⟩⟩⟩⟩⟩
  | unwind x=>exact ⟨_,rfl,rfl,_,rfl,iteF (by decide) ⟨_,rfl,rfl,_,rfl,iteF (by decide) ⟨_,rfl,rfl,_,rfl,iteF (by decide) ⟨_,rfl,rfl,_,rfl,iteT (by decide) ⟨_,rfl,rd_meth R.at_.ob (by decide +kernel) ⟨_,rfl,l,_,_,_,rfl,rfl,SqL.of hl,atI_nat (j:=0) rfl,b,B,s,x,rfl,R,k⟩⟩⟩⟩⟩⟩
  | tick x=>exact ⟨_,rfl,rfl,_,rfl,iteF (by decide) ⟨_,rfl,rfl,_,rfl,iteF (by decide) ⟨_,rfl,rfl,_,rfl,iteF (by decide) ⟨_,rfl,rfl,_,rfl,iteF (by decide) ⟨_,rfl,rfl,_,rfl,iteT (by decide) ⟨_,rfl,rd_meth R.at_.ob (by decide +kernel) ⟨_,rfl,l,_,_,_,rfl,rfl,SqL.of hl,atI_nat (j:=0) rfl,b,B,s,x,rfl,R,k⟩⟩⟩⟩⟩⟩⟩
  | made x y=>exact ⟨_,rfl,rfl,_,rfl,iteF (by decide) ⟨_,rfl,rfl,_,rfl,iteF (by decide) ⟨_,rfl,rfl,_,rfl,iteF (by decide) ⟨_,rfl,rfl,_,rfl,iteF (by decide) ⟨_,rfl,rfl,_,rfl,iteF (by decide) ⟨_,rfl,rfl,_,rfl,iteT (by decide) ⟨_,rfl,rd_meth R.at_.ob (by decide +kernel) ⟨_,rfl,l,_,_,_,rfl,rfl,SqL.of hl,atI_nat (j:=0) rfl,_,rfl,l,_,_,_,rfl,rfl,SqL.of hl,atI_nat (j:=1) rfl,b,B,s,x,y,rfl,R,k⟩⟩⟩⟩⟩⟩⟩⟩
  | went x=>exact ⟨_,rfl,rfl,_,rfl,iteF (by decide) ⟨_,rfl,rfl,_,rfl,iteF (by decide) ⟨_,rfl,rfl,_,rfl,iteF (by decide) ⟨_,rfl,rfl,_,rfl,iteF (by decide) ⟨_,rfl,rfl,_,rfl,iteF (by decide) ⟨_,rfl,rfl,_,rfl,iteF (by decide) ⟨_,rfl,rfl,_,rfl,iteT (by decide) ⟨_,rfl,rd_meth R.at_.ob (by decide +kernel) ⟨_,rfl,l,_,_,_,rfl,rfl,SqL.of hl,atI_nat (j:=0) rfl,b,B,s,x,rfl,R,k⟩⟩⟩⟩⟩⟩⟩⟩⟩
  | moved x y z=>exact ⟨_,rfl,rfl,_,rfl,iteF (by decide) ⟨_,rfl,rfl,_,rfl,iteF (by decide) ⟨_,rfl,rfl,_,rfl,iteF (by decide) ⟨_,rfl,rfl,_,rfl,iteF (by decide) ⟨_,rfl,rfl,_,rfl,iteF (by decide) ⟨_,rfl,rfl,_,rfl,iteF (by decide) ⟨_,rfl,rfl,_,rfl,iteF (by decide) ⟨_,rfl,rd_meth R.at_.ob (by decide +kernel) ⟨_,rfl,l,_,_,_,rfl,rfl,SqL.of hl,atI_nat (j:=0) rfl,_,rfl,l,_,_,_,rfl,rfl,SqL.of hl,atI_nat (j:=1) rfl,_,rfl,l,_,_,_,rfl,rfl,SqL.of hl,atI_nat (j:=2) rfl,b,B,s,x,y,z,rfl,R,k⟩⟩⟩⟩⟩⟩⟩⟩⟩
  | _=>omega
def sp_answer_to_question (A:Adr):Sp:=spAns 8 11 A
theorem sc_answer_to_question:FnScope ["book","call","given"] ["book","call","given"] (defScope s_answer_to_question):=⟨rfl,rfl,rfl,by decide +kernel,rfl,by decide +kernel,by decide +kernel⟩
theorem ok_answer_to_question (T:Txt K mg A):FnOk P w K mg base CX0 4 A.f_answer_to_question A.d_answer_to_question ["book","call","given"] (sp_answer_to_question A):=by
 refine (T.u_answer_to_question.fn).ok sc_answer_to_question (fun vs H Q E h=>?_) (fun cdv AA outer s H vs Q E hr h=>?_)
 ·obtain ⟨b,l,B,s,n,gs,c,rfl,_⟩:=h
  rfl
 ·obtain ⟨b,l,B,s,n,gs,c,rfl,R,hl,hgl,hlo,hhi,hc,k⟩:=h
  refine ⟨_,(pss_cons (ps_if (pt_cmpR op_eq (pv 1) (pe_gint T.g_NOW) (nomark _))
    (pss_one (ps_ret (pe_meth0 (pv 0) T.cl_Book T.m_Book_now.me (ok_Book_now T) (hr.mono (by decide)) T.m_Book_now.bi .nil pass0)))
    pss_nil)
   (pss_cons (ps_if (pt_cmpR op_eq (pv 1) (pe_gint T.g_NODE) (nomark _))
    (pss_one (ps_ret (pe_meth (pv 0) T.cl_Book T.m_Book_node.me (ok_Book_node T) (hr.mono (by decide)) T.m_Book_node.bi .nil pass0 (pa_cons (pe_ix ix_list (pv 2) pe_int (fun _ _=>rfl)) pa_nil))))
    pss_nil)
   (pss_cons (ps_if (pt_cmpR op_eq (pv 1) (pe_gint T.g_FIND) (nomark _))
    (pss_one (ps_ret (pe_meth (pv 0) T.cl_Book T.m_Book_find.me (ok_Book_find T) (hr.mono (by decide)) T.m_Book_find.bi .nil pass0 (pa_cons (pv 2) pa_nil))))
    pss_nil)
   (pss_one (ps_ret (pe_meth (pv 0) T.cl_Book T.m_Book_path.me (ok_Book_path T) (hr.mono (by decide)) T.m_Book_path.bi .nil pass0 (pa_cons (pe_ix ix_list (pv 2) pe_int (fun _ _=>rfl)) pa_nil))))))),?_⟩
  cases hc with
  | now=>exact ⟨_,rfl,rfl,_,rfl,iteT (by decide) ⟨_,rfl,rd_meth R.at_.ob (by decide +kernel) ⟨b,B,s,rfl,R,k⟩⟩⟩
  | node x=>exact ⟨_,rfl,rfl,_,rfl,iteF (by decide) ⟨_,rfl,rfl,_,rfl,iteT (by decide) ⟨_,rfl,rd_meth R.at_.ob (by decide +kernel) ⟨_,rfl,l,_,_,_,rfl,rfl,SqL.of hl,atI_nat (j:=0) rfl,b,B,s,x,rfl,R,k⟩⟩⟩⟩
  | find=>exact ⟨_,rfl,rfl,_,rfl,iteF (by decide) ⟨_,rfl,rfl,_,rfl,iteF (by decide) ⟨_,rfl,rfl,_,rfl,iteT (by decide) ⟨_,rfl,rd_meth R.at_.ob (by decide +kernel) ⟨_,rfl,b,l,B,s,gs,rfl,R,hl,hgl,k⟩⟩⟩⟩⟩
  | path x=>exact ⟨_,rfl,rfl,_,rfl,iteF (by decide) ⟨_,rfl,rfl,_,rfl,iteF (by decide) ⟨_,rfl,rfl,_,rfl,iteF (by decide) ⟨_,rfl,rd_meth R.at_.ob (by decide +kernel) ⟨_,rfl,l,_,_,_,rfl,rfl,SqL.of hl,atI_nat (j:=0) rfl,b,B,s,x,rfl,R,k⟩⟩⟩⟩⟩
  | _=>omega
def sp_answer_to_ranking (A:Adr):Sp:=spAns 12 15 A
theorem sc_answer_to_ranking:FnScope ["book","call","given"] ["book","call","given"] (defScope s_answer_to_ranking):=⟨rfl,rfl,rfl,by decide +kernel,rfl,by decide +kernel,by decide +kernel⟩
theorem ok_answer_to_ranking (T:Txt K mg A):FnOk P w K mg base CX0 5 A.f_answer_to_ranking A.d_answer_to_ranking ["book","call","given"] (sp_answer_to_ranking A):=by
 refine (T.u_answer_to_ranking.fn).ok sc_answer_to_ranking (fun vs H Q E h=>?_) (fun cdv AA outer s H vs Q E hr h=>?_)
 ·obtain ⟨b,l,B,s,n,gs,c,rfl,_⟩:=h
  rfl
 ·obtain ⟨b,l,B,s,n,gs,c,rfl,R,hl,hgl,hlo,hhi,hc,k⟩:=h
  refine ⟨_,(pss_cons (ps_if (pt_cmpR op_eq (pv 1) (pe_gint T.g_SIZES) (nomark _))
    (pss_one (ps_ret (pe_meth0 (pv 0) T.cl_Book T.m_Book_sizes.me (ok_Book_sizes T) (hr.mono (by decide)) T.m_Book_sizes.bi .nil pass0)))
    pss_nil)
   (pss_cons (ps_if (pt_cmpR op_eq (pv 1) (pe_gint T.g_AGES) (nomark _))
    (pss_one (ps_ret (pe_meth0 (pv 0) T.cl_Book T.m_Book_ages.me (ok_Book_ages T) (hr.mono (by decide)) T.m_Book_ages.bi .nil pass0)))
    pss_nil)
   (pss_cons (ps_if (pt_cmpR op_eq (pv 1) (pe_gint T.g_OLDEST) (nomark _))
    (pss_one (ps_ret (pe_meth (pv 0) T.cl_Book T.m_Book_oldest.me (ok_Book_oldest T) (hr.mono (by decide)) T.m_Book_oldest.bi .nil pass0 (pa_cons (pe_ix ix_list (pv 2) pe_int (fun _ _=>rfl)) pa_nil))))
    pss_nil)
   (pss_one (ps_ret (pe_meth (pv 0) T.cl_Book T.m_Book_top.me (ok_Book_top T) (hr.mono (by decide)) T.m_Book_top.bi .nil pass0 (pa_cons (pe_ix ix_list (pv 2) pe_int (fun _ _=>rfl)) (pa_cons (pe_ix ix_list (pv 2) pe_int (fun _ _=>rfl)) pa_nil)))))))),?_⟩
  cases hc with
  | sizes=>exact ⟨_,rfl,rfl,_,rfl,iteT (by decide) ⟨_,rfl,rd_meth R.at_.ob (by decide +kernel) ⟨b,B,s,rfl,R,k⟩⟩⟩
  | ages=>exact ⟨_,rfl,rfl,_,rfl,iteF (by decide) ⟨_,rfl,rfl,_,rfl,iteT (by decide) ⟨_,rfl,rd_meth R.at_.ob (by decide +kernel) ⟨b,B,s,rfl,R,k⟩⟩⟩⟩
  | oldest x=>exact ⟨_,rfl,rfl,_,rfl,iteF (by decide) ⟨_,rfl,rfl,_,rfl,iteF (by decide) ⟨_,rfl,rfl,_,rfl,iteT (by decide) ⟨_,rfl,rd_meth R.at_.ob (by decide +kernel) ⟨_,rfl,l,_,_,_,rfl,rfl,SqL.of hl,atI_nat (j:=0) rfl,b,B,s,x,rfl,R,k⟩⟩⟩⟩⟩
  | top x y=>exact ⟨_,rfl,rfl,_,rfl,iteF (by decide) ⟨_,rfl,rfl,_,rfl,iteF (by decide) ⟨_,rfl,rfl,_,rfl,iteF (by decide) ⟨_,rfl,rd_meth R.at_.ob (by decide +kernel) ⟨_,rfl,l,_,_,_,rfl,rfl,SqL.of hl,atI_nat (j:=0) rfl,_,rfl,l,_,_,_,rfl,rfl,SqL.of hl,atI_nat (j:=1) rfl,b,B,s,x,y,rfl,R,k⟩⟩⟩⟩⟩
  | _=>omega
def sp_answer_to_view (A:Adr):Sp:=spAns 16 22 A
theorem sc_answer_to_view:FnScope ["book","call","given"] ["book","call","given"] (defScope s_answer_to_view):=⟨rfl,rfl,rfl,by decide +kernel,rfl,by decide +kernel,by decide +kernel⟩
theorem ok_answer_to_view (T:Txt K mg A):FnOk P w K mg base CX0 6 A.f_answer_to_view A.d_answer_to_view ["book","call","given"] (sp_answer_to_view A):=by
 refine (T.u_answer_to_view.fn).ok sc_answer_to_view (fun vs H Q E h=>?_) (fun cdv AA outer s H vs Q E hr h=>?_)
 ·obtain ⟨b,l,B,s,n,gs,c,rfl,_⟩:=h
  rfl
 ·obtain ⟨b,l,B,s,n,gs,c,rfl,R,hl,hgl,hlo,hhi,hc,k⟩:=h
  refine ⟨_,(pss_cons (ps_if (pt_cmpR op_eq (pv 1) (pe_gint T.g_MARK) (nomark _))
    (pss_one (ps_ret (pe_meth0 (pv 0) T.cl_Book T.m_Book_mark.me (ok_Book_mark T) (hr.mono (by decide)) T.m_Book_mark.bi .nil pass0)))
    pss_nil)
   (pss_cons (ps_if (pt_cmpR op_eq (pv 1) (pe_gint T.g_SINCE) (nomark _))
    (pss_one (ps_ret (pe_meth (pv 0) T.cl_Book T.m_Book_since.me (ok_Book_since T) (hr.mono (by decide)) T.m_Book_since.bi .nil pass0 (pa_cons (pe_ix ix_list (pv 2) pe_int (fun _ _=>rfl)) pa_nil))))
    pss_nil)
   (pss_cons (ps_if (pt_cmpR op_eq (pv 1) (pe_gint T.g_HOLDS) (nomark _))
    (pss_one (ps_ret (pe_meth (pv 0) T.cl_Book T.m_Book_holds.me (ok_Book_holds T) (hr.mono (by decide)) T.m_Book_holds.bi .nil pass0 (pa_cons (pe_ix ix_list (pv 2) pe_int (fun _ _=>rfl)) pa_nil))))
    pss_nil)
   (pss_cons (ps_if (pt_cmpR op_eq (pv 1) (pe_gint T.g_SHARE) (nomark _))
    (pss_one (ps_ret (pe_meth (pv 0) T.cl_Book T.m_Book_share.me (ok_Book_share T) (hr.mono (by decide)) T.m_Book_share.bi .nil pass0 (pa_cons (pe_ix ix_list (pv 2) pe_int (fun _ _=>rfl)) (pa_cons (pe_ix ix_list (pv 2) pe_int (fun _ _=>rfl)) pa_nil)))))
    pss_nil)
   (pss_cons (ps_if (pt_cmpR op_eq (pv 1) (pe_gint T.g_PICK) (nomark _))
    (pss_one (ps_ret (pe_meth (pv 0) T.cl_Book T.m_Book_pick.me (ok_Book_pick T) (hr.mono (by decide)) T.m_Book_pick.bi .nil pass0 (pa_cons (pe_ix ix_list (pv 2) pe_int (fun _ _=>rfl)) pa_nil))))
    pss_nil)
   (pss_cons (ps_if (pt_cmpR op_eq (pv 1) (pe_gint T.g_PICKED) (nomark _))
    (pss_one (ps_ret (pe_meth0 (pv 0) T.cl_Book T.m_Book_picked.me (ok_Book_picked T) (hr.mono (by decide)) T.m_Book_picked.bi .nil pass0)))
    pss_nil)
   (pss_one (ps_ret (pe_meth (pv 0) T.cl_Book T.m_Book_lines.me (ok_Book_lines T) (hr.mono (by decide)) T.m_Book_lines.bi .nil pass0 (pa_cons (pe_ix ix_list (pv 2) pe_int (fun _ _=>rfl)) pa_nil)))))))))),?_⟩
  cases hc with
  | mark=>exact ⟨_,rfl,rfl,_,rfl,iteT (by decide) ⟨_,rfl,rd_meth R.at_.ob (by decide +kernel) ⟨b,B,s,rfl,R,k⟩⟩⟩
  | since x=>exact ⟨_,rfl,rfl,_,rfl,iteF (by decide) ⟨_,rfl,rfl,_,rfl,iteT (by decide) ⟨_,rfl,rd_meth R.at_.ob (by decide +kernel) ⟨_,rfl,l,_,_,_,rfl,rfl,SqL.of hl,atI_nat (j:=0) rfl,b,B,s,x,rfl,R,k⟩⟩⟩⟩
  | holds x=>exact ⟨_,rfl,rfl,_,rfl,iteF (by decide) ⟨_,rfl,rfl,_,rfl,iteF (by decide) ⟨_,rfl,rfl,_,rfl,iteT (by decide) ⟨_,rfl,rd_meth R.at_.ob (by decide +kernel) ⟨_,rfl,l,_,_,_,rfl,rfl,SqL.of hl,atI_nat (j:=0) rfl,b,B,s,x,rfl,R,k⟩⟩⟩⟩⟩
  | share x y=>exact ⟨_,rfl,rfl,_,rfl,iteF (by decide) ⟨_,rfl,rfl,_,rfl,iteF (by decide) ⟨_,rfl,rfl,_,rfl,iteF (by decide) ⟨_,rfl,rfl,_,rfl,iteT (by decide) ⟨_,rfl,rd_meth R.at_.ob (by decide +kernel) ⟨_,rfl,l,_,_,_,rfl,rfl,SqL.of hl,atI_nat (j:=0) rfl,_,rfl,l,_,_,_,rfl,rfl,SqL.of hl,atI_nat (j:=1) rfl,b,B,s,x,y,rfl,R,k⟩⟩⟩⟩⟩⟩
  | pick x=>exact ⟨_,rfl,rfl,_,rfl,iteF (by decide) ⟨_,rfl,rfl,_,rfl,iteF (by decide) ⟨_,rfl,rfl,_,rfl,iteF (by decide) ⟨_,rfl,rfl,_,rfl,iteF (by decide) ⟨_,rfl,rfl,_,rfl,iteT (by decide) ⟨_,rfl,rd_meth R.at_.ob (by decide +kernel) ⟨_,rfl,l,_,_,_,rfl,rfl,SqL.of hl,atI_nat (j:=0) rfl,b,B,s,x,rfl,R,k⟩⟩⟩⟩⟩⟩⟩
  | picked=>exact ⟨_,rfl,rfl,_,rfl,iteF (by decide) ⟨_,rfl,rfl,_,rfl,iteF (by decide) ⟨_,rfl,rfl,_,rfl,iteF (by decide) ⟨_,rfl,rfl,_,rfl,iteF (by decide) ⟨_,rfl,rfl,_,rfl,iteF (by decide) ⟨_,rfl,rfl,_,rfl,iteT (by decide) ⟨_,rfl,rd_meth R.at_.ob (by decide +kernel) ⟨b,B,s,rfl,R,k⟩⟩⟩⟩⟩⟩⟩⟩
  | lines x=>exact ⟨_,rfl,rfl,_,rfl,iteF (by decide) ⟨_,rfl,rfl,_,rfl,iteF (by decide) ⟨_,rfl,rfl,_,rfl,iteF (by decide) ⟨_,rfl,rfl,_,rfl,iteF (by decide) ⟨_,rfl,rfl,_,rfl,iteF (by decide) ⟨_,rfl,rfl,_,rfl,iteF (by decide) ⟨_,rfl,rd_meth R.at_.ob (by decide +kernel) ⟨_,rfl,l,_,_,_,rfl,rfl,SqL.of hl,atI_nat (j:=0) rfl,b,B,s,x,rfl,R,k⟩⟩⟩⟩⟩⟩⟩⟩
  | _=>omega
def sp_answer_to (A:Adr):Sp:=spAns 0 22 A
theorem sc_answer_to:FnScope ["book","call","given"] ["book","call","given"] (defScope s_answer_to):=⟨rfl,rfl,rfl,by decide +kernel,rfl,by decide +kernel,by decide +kernel⟩
theorem ok_answer_to (T:Txt K mg A):FnOk P w K mg base CX0 7 A.f_answer_to A.d_answer_to ["book","call","given"] (sp_answer_to A):=by
 refine (T.u_answer_to.fn).ok sc_answer_to (fun vs H Q E h=>?_) (fun cdv AA outer s H vs Q E hr h=>?_)
 ·obtain ⟨b,l,B,s,n,gs,c,rfl,_⟩:=h
  rfl
 ·obtain ⟨b,l,B,s,n,gs,c,rfl,R,hl,hgl,hlo,hhi,hc,k⟩:=h
  refine ⟨_,(pss_cons (ps_if (pt_cmpR op_le (pv 1) (pe_gint T.g_MOVED) (nomark _))
    (pss_one (ps_ret (pe_call (ok_answer_to_change T) (hr.mono (by decide)) (by rfl) T.u_answer_to_change.mg T.u_answer_to_change.kp T.u_answer_to_change.bi .nil pass0 (pa_cons (pv 0) (pa_cons (pv 1) (pa_cons (pv 2) pa_nil))))))
    pss_nil)
   (pss_cons (ps_if (pt_cmpR op_le (pv 1) (pe_gint T.g_PATH) (nomark _))
    (pss_one (ps_ret (pe_call (ok_answer_to_question T) (hr.mono (by decide)) (by rfl) T.u_answer_to_question.mg T.u_answer_to_question.kp T.u_answer_to_question.bi .nil pass0 (pa_cons (pv 0) (pa_cons (pv 1) (pa_cons (pv 2) pa_nil))))))
    pss_nil)
   (pss_cons (ps_if (pt_cmpR op_le (pv 1) (pe_gint T.g_TOP) (nomark _))
    (pss_one (ps_ret (pe_call (ok_answer_to_ranking T) (hr.mono (by decide)) (by rfl) T.u_answer_to_ranking.mg T.u_answer_to_ranking.kp T.u_answer_to_ranking.bi .nil pass0 (pa_cons (pv 0) (pa_cons (pv 1) (pa_cons (pv 2) pa_nil))))))
    pss_nil)
   (pss_one (ps_ret (pe_call (ok_answer_to_view T) (hr.mono (by decide)) (by rfl) T.u_answer_to_view.mg T.u_answer_to_view.kp T.u_answer_to_view.bi .nil pass0 (pa_cons (pv 0) (pa_cons (pv 1) (pa_cons (pv 2) pa_nil))))))))),?_⟩
  refine ⟨_,rfl,_,_,rfl,rfl,_,rfl,ite2 (fun q=>?_) (fun q=>?_)⟩
  ·have q:(n:Int)≤7:=of_decide_eq_true q
   exact ⟨_,rfl,_,rfl,_,rfl,b,l,B,s,n,gs,c,rfl,R,hl,hgl,hlo,by omega,hc,k⟩
  have q1:¬ (n:Int)≤7:=fun e=>q (decide_eq_true e)
  refine ⟨_,rfl,_,_,rfl,rfl,_,rfl,ite2 (fun q=>?_) (fun q=>?_)⟩
  ·have q:(n:Int)≤11:=of_decide_eq_true q
   exact ⟨_,rfl,_,rfl,_,rfl,b,l,B,s,n,gs,c,rfl,R,hl,hgl,by omega,by omega,hc,k⟩
  have q2:¬ (n:Int)≤11:=fun e=>q (decide_eq_true e)
  refine ⟨_,rfl,_,_,rfl,rfl,_,rfl,ite2 (fun q=>?_) (fun q=>?_)⟩
  ·have q:(n:Int)≤15:=of_decide_eq_true q
   exact ⟨_,rfl,_,rfl,_,rfl,b,l,B,s,n,gs,c,rfl,R,hl,hgl,by omega,by omega,hc,k⟩
  have q3:¬ (n:Int)≤15:=fun e=>q (decide_eq_true e)
  exact ⟨_,rfl,_,rfl,_,rfl,b,l,B,s,n,gs,c,rfl,R,hl,hgl,by omega,hhi,hc,k⟩
def sp_first_given (K:PySem.W.Frag) (A:Adr):Sp:=fun vs H Q _=>∃ (a:Addr) (ns:List Int) (i n:Nat),vs=[.ref a,.int i]∧SqL K H a (ns.map V.int)∧ns[i]?=some (n:Int)∧Q (.int (if n=10 then (i:Int)+2 else (i:Int)+1)) H
theorem sc_first_given:FnScope ["calls","at"] ["calls","at"] (defScope s_first_given):=⟨rfl,rfl,rfl,by decide +kernel,rfl,by decide +kernel,by decide +kernel⟩
theorem ok_first_given (T:Txt K mg A):FnOk P w K mg base CX0 1 A.f_first_given A.d_first_given ["calls","at"] (sp_first_given K A):=by
 refine (T.u_first_given.fn).ok sc_first_given (fun vs H Q E h=>?_) (fun cdv AA outer s H vs Q E hr h=>?_)
 ·obtain ⟨a,ns,i,n,rfl,_⟩:=h
  rfl
 ·obtain ⟨a,ns,i,n,rfl,hs,hi,k⟩:=h
  refine ⟨_,(pss_one (ps_ret (pe_ifExp (pt_cmpR op_eq (pe_ix ix_list (pv 0) (pv 1) (fun _ _=>rfl)) (pe_gint T.g_FIND) (nomark _)) (pe_op op_add (pv 1) pe_int) (pe_op op_add (pv 1) pe_int)))),?_⟩
  refine ⟨_,rfl,_,rfl,a,_,_,_,rfl,rfl,hs,atI_nat (j:=i) (v:=.int n) (by rw [List.getElem?_map,hi];rfl),rfl,_,rfl,?_⟩
  rw [dec_int]
  refine ite2 (fun c=>?_) (fun c=>?_)
  ·have c:(n:Int)=10:=beq_iff_eq.mp c
   rw [if_pos (by omega)] at k
   exact ⟨_,rfl,_,_,rfl,rfl,k⟩
  ·have c:¬ (n:Int)=10:=fun e=>c (beq_iff_eq.mpr e)
   rw [if_neg (by omega)] at k
   exact ⟨_,rfl,_,_,rfl,rfl,k⟩
def sp_end_given (K:PySem.W.Frag) (A:Adr):Sp:=fun vs H Q _=>∃ (a:Addr) (ns:List Int) (i n m:Nat),vs=[.ref a,.int i]∧SqL K H a (ns.map V.int)∧ns[i]?=some (n:Int)∧((n=10∧ns[i+1]?=some (m:Int))∨(n≠10∧nbL[n]?=some m))∧Q (.int (if n=10 then (i:Int)+2+m else (i:Int)+1+m)) H
theorem sc_end_given:FnScope ["calls","at"] ["calls","at"] (defScope s_end_given):=⟨rfl,rfl,rfl,by decide +kernel,rfl,by decide +kernel,by decide +kernel⟩
theorem ok_end_given (T:Txt K mg A):FnOk P w K mg base CX0 1 A.f_end_given A.d_end_given ["calls","at"] (sp_end_given K A):=by
 refine (T.u_end_given.fn).ok sc_end_given (fun vs H Q E h=>?_) (fun cdv AA outer s H vs Q E hr h=>?_)
 ·obtain ⟨a,ns,i,n,m,rfl,_⟩:=h
  rfl
 ·obtain ⟨a,ns,i,n,m,rfl,hs,hi,hm,k⟩:=h
  refine ⟨_,(pss_cons (ps_if (pt_cmpR op_eq (pe_ix ix_list (pv 0) (pv 1) (fun _ _=>rfl)) (pe_gint T.g_FIND) (nomark _))
    (pss_one (ps_ret (pe_op op_add (pe_op op_add (pv 1) pe_int) (pe_ix ix_list (pv 0) (pe_op op_add (pv 1) pe_int) (fun _ _=>rfl)))))
    pss_nil)
   (pss_one (ps_ret (pe_op op_add (pe_op op_add (pv 1) pe_int) (pe_ix ix_tup (pe_glob (v:=.ref A.a_NUMBERS_BEHIND) rfl T.g_NUMBERS_BEHIND rfl) (pe_ix ix_list (pv 0) (pv 1) (fun _ _=>rfl)) (fun _ _=>rfl)))))),?_⟩
  refine ⟨_,rfl,_,rfl,a,_,_,_,rfl,rfl,hs,atI_nat (j:=i) (v:=.int n) (by rw [List.getElem?_map,hi];rfl),rfl,_,rfl,?_⟩
  rw [dec_int]
  refine ite2 (fun c=>?_) (fun c=>?_)
  ·have c:(n:Int)=10:=beq_iff_eq.mp c
   have c0:n=10:=by omega
   rw [if_pos c0] at k
   rcases hm with ⟨_,hm⟩ | ⟨h,_⟩
   case inr=>exact absurd c0 h
   exact ⟨_,rfl,_,_,rfl,rfl,_,rfl,_,rfl,_,_,rfl,rfl,a,_,_,_,rfl,rfl,hs,atI_nat (j:=i+1) (v:=.int m) (by rw [List.getElem?_map,hm];rfl),_,_,rfl,rfl,k⟩
  ·have c:¬ (n:Int)=10:=fun e=>c (beq_iff_eq.mpr e)
   have c0:¬ n=10:=by omega
   rw [if_neg c0] at k
   rcases hm with ⟨h,_⟩ | ⟨_,hm⟩
   ·exact absurd h c0
   have hT:SqT K H A.a_NUMBERS_BEHIND (nbL.map fun (x:Nat)=>V.int (x:Int)):=.inr T.t_NUMBERS_BEHIND
   exact ⟨_,rfl,_,_,rfl,rfl,_,rfl,_,rfl,a,_,_,_,rfl,rfl,hs,atI_nat (j:=i) (v:=.int n) (by rw [List.getElem?_map,hi];rfl),A.a_NUMBERS_BEHIND,_,_,_,rfl,rfl,hT,atI_nat (j:=n) (v:=.int m) (by rw [List.getElem?_map,hm];rfl),_,_,rfl,rfl,k⟩
end
def endOf (n i m:Nat):Nat:=if n=10 then i+2+m else i+1+m
def fstOf (n i:Nat):Nat:=if n=10 then i+2 else i+1
theorem turn_of {ns:List Int}{i f:Nat}{cs:List (List (List Int))} (hi:i<ns.length) (hc:PyFlat.calls PySh28.shape f (ns.drop i)=some cs) (ha:(cs.map PySh28.whole).all Sh28Neutral.asked1=true) :
  ∃ (n:Nat) (gs:List Nat) (x:Call) (c:List (List Int)) (cs':List (List (List Int))),ns[i]?=some (n:Int)∧n≤22∧CallN n gs x∧cs=c::cs'∧Sh28Neutral.callOf (PySh28.whole c)=some x∧(∃ f',PyFlat.calls PySh28.shape f' (ns.drop (endOf n i gs.length))=some cs') ∧
   (cs'.map PySh28.whole).all Sh28Neutral.asked1=true∧i<endOf n i gs.length∧endOf n i gs.length≤ns.length∧((n=10∧ns[i+1]?=some (gs.length:Int))∨(n≠10∧nbL[n]?=some gs.length)) ∧
   cutV (ns.map V.int) (some (fstOf n i:Nat)) (some (endOf n i gs.length:Nat))=natV gs:=by
 have hd:ns.drop i=ns[i]::ns.drop (i+1):=List.drop_eq_getElem_cons hi
 rw [hd] at hc
 cases f with
 | zero=>cases hc
 | succ f =>
 unfold PyFlat.calls at hc
 cases h1:PyFlat.call PySh28.shape (ns[i]::ns.drop (i+1)) with
 | none=>rw [h1] at hc;cases hc
 | some ct =>
 obtain ⟨c,t⟩:=ct
 rw [h1] at hc
 have hc:(match PyFlat.calls PySh28.shape f t with | none=>none | some cs=>some (c::cs))=some cs:=hc
 cases h2:PyFlat.calls PySh28.shape f t with
 | none=>rw [h2] at hc;cases hc
 | some cs' =>
 rw [h2] at hc
 cases hc
 rw [List.map_cons,List.all_cons,Bool.and_eq_true] at ha
 obtain ⟨n,hp,hn,gs,x,hN,ho,hr⟩:=read_as h1 ha.1
 have hni:ns[i]?=some (n:Int):=by rw [List.getElem?_eq_getElem hi,hp]
 have hxl:(intsN gs).length=gs.length:=List.length_map ..
 have hcut:∀ (lo:Nat) (u:List Int),ns.drop lo=intsN gs++u→lo≤ns.length→cutV (ns.map V.int) (some (lo:Int)) (some ((lo+gs.length:Nat):Int))=natV gs∧ns.drop (lo+gs.length)=u∧lo+gs.length≤ns.length:=fun lo u h hl=>by
  have hlen:=congrArg List.length h
  rw [List.length_drop,List.length_append,hxl] at hlen
  have hle:lo+gs.length≤ns.length:=by omega
  refine ⟨?_,?_,hle⟩
  ·unfold cutV
   rw [HT.sIx_nat,HT.sIx_nat,List.length_map,Nat.min_eq_left hl,Nat.min_eq_left hle,← List.map_drop,h,show lo+gs.length - lo=gs.length from by omega,← List.map_take,List.take_left' hxl]
   unfold intsN natV
   rw [List.map_map];rfl
  ·rw [← List.drop_drop,h,List.drop_left' hxl]
 refine ⟨n,gs,x,c,cs',hni,hn,hN,rfl,ho,?_⟩
 rcases hr with ⟨h10,hr⟩ | ⟨h10,hb,hr⟩
 ·have hl1:i+1<ns.length:=by
   have:=congrArg List.length hr
   rw [List.length_drop,List.length_cons] at this
   omega
  have hd2:ns.drop (i+1)=ns[i+1]::ns.drop (i+2):=List.drop_eq_getElem_cons hl1
  rw [hd2] at hr
  injection hr with e1 e2
  obtain ⟨q1,q2,q3⟩:=hcut (i+2) t e2 (by omega)
  have ee:endOf n i gs.length=i+2+gs.length:=if_pos h10
  have ef:fstOf n i=i+2:=if_pos h10
  rw [ee,ef]
  exact ⟨⟨f,by rw [q2];exact h2⟩,ha.2,by omega,q3,.inl ⟨h10,by rw [List.getElem?_eq_getElem hl1,e1]⟩,q1⟩
 ·obtain ⟨q1,q2,q3⟩:=hcut (i+1) t hr (by omega)
  have ee:endOf n i gs.length=i+1+gs.length:=if_neg h10
  have ef:fstOf n i=i+1:=if_neg h10
  rw [ee,ef]
  exact ⟨⟨f,by rw [q2];exact h2⟩,ha.2,by omega,q3,.inr ⟨h10,hb⟩,q1⟩
theorem step_call {s:State}{c:List (List Int)}{x:Call} (h:Sh28Neutral.callOf c=some x):Sh28Neutral.step s c=((does s x).1,ansOf s x):=by
 unfold Sh28Neutral.step
 rw [h];rfl
theorem told_cons (a:List Int) (l:List (List Int)):PyFlat.told (a::l)=((a.length:Int)::a)++PyFlat.told l:=rfl
theorem total_cons (s:State) (c:List (List Int)) (r:List (List (List Int))):Sh28Neutral.total s (c::r)=(Sh28Neutral.step s c).2.length+Sh28Neutral.total (Sh28Neutral.step s c).1 r:=rfl
theorem played_cons (s:State) (c:List (List Int)) (r:List (List (List Int))):PyFlat.played Sh28Neutral.step s (c::r)=(Sh28Neutral.step s c).2::PyFlat.played Sh28Neutral.step (Sh28Neutral.step s c).1 r:=rfl
def InL (K:PySem.W.Frag) (H:Hp) (a:Addr) (xs:List V):Prop:=(∃ o,H a=some (.frz o (.lst xs)))∨∃ (o:Obj) (its:Array Value) (n:Nat),K.lookup a=some o∧o.cls=.type "list"∧o.dict=none∧o.data=.seq its n∧its.size≤sizeLine∧Vals xs its.toList
theorem InL.sq {K:PySem.W.Frag}{H:Hp}{a:Addr}{xs:List V} (h:InL K H a xs):SqL K H a xs:=h.elim (fun ⟨o,e⟩=>.inl (.inr ⟨o,e⟩)) .inr
theorem InL.keep {K:PySem.W.Frag}{H H':Hp}{a:Addr}{xs:List V} (h:InL K H a xs) (k:tg (H a)=.fz→H' a=H a):InL K H' a xs:=h.elim (fun ⟨o,e⟩=>.inl ⟨o,by rw [k (by rw [e];rfl)];exact e⟩) .inr
theorem At.other {A:Adr}{H H':Hp}{b an:Addr}{B:Bd}{D:Dt} (R:At A H b B D) (h:tg (H an)=.ls) (hn:an∉B.ls) (hk:∀ x,x≠an→H' x=H x):At A H' b B D:=by
 have k:Fr H H' [] [an] []:=fun x _ _ h2 _=>hk x fun e=>h2 (by rw [e];exact h) (by rw [e];simp)
 have n:∀ {j:Nat}{y:Addr},B.ls[j]?=some y→y∉[an]:=fun {j y} hy e=>hn (by rw [← List.mem_singleton.mp e];exact List.mem_of_getElem? hy)
 exact ⟨R.ob.fr k (bk_tg R),R.ways.fr k (by decide) (n (j:=0) rfl),R.pcs.fr k (by decide) (n (j:=1) rfl) (by simp),R.rows.fr k (by decide) ⟨n (j:=2) rfl,n (j:=3) rfl,n (j:=4) rfl,n (j:=5) rfl⟩,R.picks.fr k (by decide) (by simp),by rw [k.ls (tg_ls R.mkl) (by decide) (n (j:=6) rfl)];exact R.mkl,R.mkn,fun i m r h1 h2=>(R.mks i m r h1 h2).fr k (by decide) (n (j:=i+7) h1),R.bm.fr k (by decide),R.lt1.fr k (by decide),R.lt2.fr k (by decide),R.tn,R.dn,R.nd⟩
structure Lp (K:PySem.W.Frag) (A:Adr) (H:Hp) (a b an:Addr) (ns:List Int) (i:Nat) (B:Bd) (s:State) (out:List Int) (cs:List (List (List Int))):Prop where
 book:BookAt A H b B s
 inp:InL K H a (ns.map V.int)
 outp:H an=some (.lst (out.map V.int))
 nin:an∉B.ls
 le:i≤ns.length
 cls:∃ f,PyFlat.calls PySh28.shape f (ns.drop i)=some cs
 ask:(cs.map PySh28.whole).all Sh28Neutral.asked1=true
 ans:out++PyFlat.told (PyFlat.played Sh28Neutral.step s (cs.map PySh28.whole))=PySh28.answers ns
 few:out.length+Sh28Neutral.total s (cs.map PySh28.whole)+cs.length<1005001
theorem asked_of {ns:List Int} (h:PySh28.answers_asked ns=true):∃ cs,PyFlat.calls PySh28.shape ns.length ns=some cs∧(cs.map PySh28.whole).all Sh28Neutral.asked1=true∧Sh28Neutral.total begun (cs.map PySh28.whole)<1000000∧cs.length≤5000∧PyFlat.told (PyFlat.played Sh28Neutral.step begun (cs.map PySh28.whole))=PySh28.answers ns:=by
 unfold PySh28.answers_asked at h
 unfold PySh28.answers
 unfold PySh28.calls at h ⊢
 cases hc:PyFlat.calls PySh28.shape ns.length ns with
 | none=>rw [hc] at h;cases h
 | some cs =>
  rw [hc] at h
  have h:(PyFlat.atMost 5000 (cs.map PySh28.whole) && Sh28Neutral.asked (cs.map PySh28.whole))=true:=h
  unfold PyFlat.atMost Sh28Neutral.asked at h
  rw [Bool.and_eq_true,Bool.and_eq_true,decide_eq_true_eq,decide_eq_true_eq,List.length_map] at h
  exact ⟨cs,rfl,h.2.1,h.2.2,h.1,rfl⟩
section
variable {P:Program}{w:World}{K:PySem.W.Frag}{mg:Str→Option Value}{base:Heap}{A:Adr}
def sp_answers (K:PySem.W.Frag) (A:Adr):Sp:=fun vs H Q _=>∃ (a:Addr) (ns:List Int),vs=[.ref a]∧InL K H a (ns.map V.int)∧BmH A H∧LamTab H A.t_Pieces_eldest lq_Pieces_eldest lp_Pieces_eldest∧LamTab H A.t_Ways_most lq_Ways_most lp_Ways_most∧A.t_Pieces_eldest≠A.t_Ways_most∧ns.length≤16777216∧PySh28.answers_asked ns=true ∧
 ∀ (r:Addr) (H':Hp),H' r=some (.lst ((PySh28.answers ns).map V.int))→BmH A H'→LamTab H' A.t_Pieces_eldest lq_Pieces_eldest lp_Pieces_eldest→LamTab H' A.t_Ways_most lq_Ways_most lp_Ways_most→Q (.ref r) H'
theorem sc_answers:FnScope ["calls","book","answered","at","call","end","answer"] ["calls"] (defScope s_answers):=⟨rfl,rfl,rfl,by decide +kernel,rfl,by decide +kernel,by decide +kernel⟩
theorem ok_answers (T:Txt K mg A):FnOk P w K mg base CX0 9 A.f_answers A.d_answers ["calls"] (sp_answers K A):=by
 refine (T.u_answers.fn).ok sc_answers (fun vs H Q E h=>?_) (fun cdv AA outer s H vs Q E hr h=>?_)
 ·obtain ⟨a,ns,rfl,_⟩:=h
  rfl
 ·obtain ⟨a,ns,rfl,hin,hbm,ht1,ht2,htn,hnl,hask,k⟩:=h
  refine ⟨_,(pss_cons (ps_set (i:=1) sc_answers.nd rfl (Or.inl rfl) (pe_make0 T.mk_Book (ok_Book___init__ T) (hr.mono (by decide)) (by rfl) T.mg_Book T.m_Book___init__.bi .nil pass0))
   (pss_cons (ps_set (i:=2) sc_answers.nd rfl (Or.inl rfl) (pe_lst pa_nil))
   (pss_cons (ps_set (i:=3) sc_answers.nd rfl (Or.inl rfl) pe_int)
   (pss_cons (ps_while PassesOwn.never (pt_cmpR op_lt (pv 3) (pe_callB call_len_seq (by rfl) T.b_len PySem.boot_len (pa_cons (pv 0) pa_nil)) (nomark _))
    (pss_cons (ps_set (i:=4) sc_answers.nd rfl (Or.inl rfl) (pe_ix ix_list (pv 0) (pv 3) (fun _ _=>rfl)))
    (pss_cons (ps_if (pt_not (pt_val (pe_call (ok_within T) (hr.mono (by decide)) (by rfl) T.u_within.mg T.u_within.kp T.u_within.bi .nil pass0 (pa_cons (pv 4) (pa_cons (pe_gint T.g_LINES) pa_nil)))))
     (pss_one ps_never)
     pss_nil)
    (pss_cons (ps_set (i:=5) sc_answers.nd rfl (Or.inl rfl) (pe_call (ok_end_given T) (hr.mono (by decide)) (by rfl) T.u_end_given.mg T.u_end_given.kp T.u_end_given.bi .nil pass0 (pa_cons (pv 0) (pa_cons (pv 3) pa_nil))))
    (pss_cons (ps_set (i:=6) sc_answers.nd rfl (Or.inl rfl) (pe_call (ok_answer_to T) (hr.mono (by decide)) (by rfl) T.u_answer_to.mg T.u_answer_to.kp T.u_answer_to.bi .nil pass0 (pa_cons (pv 1) (pa_cons (pv 4) (pa_cons (pe_slice sl_list (pv 0) (po_some (pe_call (ok_first_given T) (hr.mono (by decide)) (by rfl) T.u_first_given.mg T.u_first_given.kp T.u_first_given.bi .nil pass0 (pa_cons (pv 0) (pa_cons (pv 3) pa_nil)))) (po_some (pv 5))) pa_nil)))))
    (pss_cons (ps_expr (pe_bm PySem.F.plainAttrs_list PySem.F.slot_list_append PySem.F.type_list_append mt_append (pv 2) (pa_cons (pe_callB call_len_seq (by rfl) T.b_len PySem.boot_len (pa_cons (pv 6) pa_nil)) pa_nil)))
    (pss_cons (ps_expr (pe_bm PySem.F.plainAttrs_list PySem.F.slot_list_extend PySem.F.type_list_extend mt_extend (pv 2) (pa_cons (pv 6) pa_nil)))
    (pss_one (ps_set (i:=3) sc_answers.nd rfl (Or.inl rfl) (pv 5))))))))))
   (pss_one (ps_ret (pv 2))))))),?_⟩
  have hsl:=PySem.sizeLine_eq
  obtain ⟨cs0,hc0,ha0,htot,hfive,hans⟩:=asked_of hask
  intro b bd nb nbd nebd
  have e0:∀ x,H x≠none→upd (upd H bd (.own b)) b (.ins A.c_Book bd []) x=H x:=fun x hx=>by
   have n1:x≠b:=fun e=>hx (by rw [e];exact nb)
   have n2:x≠bd:=fun e=>hx (by rw [e];exact nbd)
   rw [upd_ne n1,upd_ne n2]
  have hbm0:BmH A (upd (upd H bd (.own b)) b (.ins A.c_Book bd [])):=BmH.fr hbm (Fr.all e0) (by decide)
  have ht10:=LamTab.fr ht1 (Fr.all e0) (by decide)
  have ht20:=LamTab.fr ht2 (Fr.all e0) (by decide)
  refine ⟨b,bd,rfl,upd_same,fun H1 B1 N1 eL F1 hl1=>⟨rfl,slN 0,fun an gan=>?_⟩⟩
  have R1:BookAt A H1 b B1 begun:=⟨N1.full hbm0 ht10 ht20 htn (by rw [upd_same];exact (by decide:Tg.ot≠.tb)) (by rw [upd_same];exact (by decide:Tg.ot≠.ex)) F1,by rw [eL];exact List.Perm.refl _,good_begun⟩
  have e1:∀ x,H x≠none→H1 x=H x:=fun x hx=>by
   rw [F1 x (by rw [e0 x hx];exact hx) (fun e=>hx (by rw [e];exact nb)),e0 x hx]
  have e2:=al (o:=.lst []) gan
  have h2:upd H1 an (.lst []) an=some (.lst []):=upd_same
  generalize upd H1 an (.lst [])=H2 at e2 h2 ⊢
  have k2:=kt e1 e2
  have R2:=R1.kept e2
  have nan:an∉B1.ls:=fun h=>by
   have:=R1.at_.lsT h
   rw [gan] at this
   cases this
  have L0:Lp K A H2 a b an ns 0 B1 begun [] cs0:=⟨R2,hin.keep fun h=>k2 a (tg_some (by rw [h];decide)),h2,nan,Nat.zero_le _,⟨ns.length,by rw [List.drop_zero];exact hc0⟩,ha0,hans,by rw [List.length_nil];omega⟩
  refine ⟨fun m σ H'=>∃ (i:Nat) (B:Bd) (s:State) (out:List Int) (cs:List (List (List Int))) (v4 v5 v6:Option V),σ=[some (.ref a),some (.ref b),some (.ref an),some (.int i),v4,v5,v6]∧i+m=ns.length∧Lp K A H' a b an ns i B s out cs,⟨ns.length,0,B1,begun,[],cs0,none,none,none,rfl,by omega,L0⟩,?_⟩
  rintro m σ H' ⟨i,B,s,out,cs,v4,v5,v6,rfl,him,L⟩
  refine ⟨_,rfl,_,rfl,a,_,rfl,.inl L.inp.sq,_,_,rfl,rfl,_,rfl,?_⟩
  rw [List.length_map]
  refine ite2 (fun c2=>wl_go ?_) (fun c2=>?_)
  ·have c2:(i:Int)<ns.length:=of_decide_eq_true c2
   have hi:i<ns.length:=by omega
   obtain ⟨f,hf⟩:=L.cls
   obtain ⟨n,gs,x,c,cs',hni,hn,hN,rfl,hco,hcs',hask',hlt,hle,hnb,hcut⟩:=turn_of hi hf L.ask
   have hsq:=L.inp.sq
   refine ⟨_,rfl,_,rfl,a,_,_,_,rfl,rfl,hsq,atI_nat (j:=i) (v:=.int n) (by rw [List.getElem?_map,hni];rfl),?_⟩
   refine ⟨_,rfl,n,22,rfl,_,rfl,iteF (by rw [Bool.not_eq_true',decide_eq_false_iff_not,Classical.not_not];omega) ?_⟩
   refine ⟨_,rfl,_,rfl,a,ns,i,n,gs.length,rfl,hsq,hni,hnb,?_⟩
   have eE:(if n=10 then (i:Int)+2+(gs.length:Nat) else (i:Int)+1+(gs.length:Nat))=((endOf n i gs.length:Nat):Int):=by unfold endOf;split<;>omega
   have eF:(if n=10 then (i:Int)+2 else (i:Int)+1)=((fstOf n i:Nat):Int):=by unfold fstOf;split<;>omega
   rw [eE]
   refine ⟨_,rfl,_,rfl,_,rfl,_,rfl,_,rfl,a,ns,i,n,rfl,hsq,hni,?_⟩
   rw [eF]
   refine ⟨_,rfl,_,rfl,_,rfl,a,_,rfl,hsq,fun l gl=>?_⟩
   rw [hcut]
   have e3:=al (o:=.lst (natV gs)) gl
   have h3:upd H' l (.lst (natV gs)) l=some (.lst (natV gs)):=upd_same
   generalize upd H' l (.lst (natV gs))=H3 at e3 h3 ⊢
   have hgl:gs.length≤16777216:=by
    have:endOf n i gs.length=(if n=10 then i+2+gs.length else i+1+gs.length):=rfl
    rw [this] at hle
    split at hle<;>omega
   have o3:Oth H3 B an:=⟨.inl (tg_ls (ks e3 L.outp)),L.nin⟩
   refine ⟨b,l,B,s,n,gs,x,rfl,L.book.kept e3,h3,hgl,Nat.zero_le _,hn,hN,fun r H4 B4 R4 hr4 hf4 O4=>?_⟩
   obtain ⟨ea4,na4⟩:=O4 an o3
   have han4:H4 an=some (.lst (out.map V.int)):=by rw [ea4];exact ks e3 L.outp
   have nra:an≠r:=hf4 an o3
   have hst:=step_call (s:=s) hco
   have hfw:=L.few
   rw [List.map_cons,total_cons,hst,List.length_cons] at hfw
   have hfw:out.length+((ansOf s x).length+Sh28Neutral.total (does s x).1 (cs'.map PySh28.whole))+(cs'.length+1)<1005001:=hfw
   have hanl:=L.ans
   rw [List.map_cons,played_cons,told_cons,hst] at hanl
   have hlr:((ansOf s x).map V.int).length=(ansOf s x).length:=List.length_map ..
   refine ⟨_,rfl,.inl ⟨rfl,_,SqL.of han4⟩,_,rfl,r,_,rfl,.inl (SqL.of hr4),an,_,_,rfl,rfl,han4,by rw [List.length_map];omega,?_⟩
   have h5:upd H4 an (.lst (out.map V.int++[.int (((ansOf s x).map V.int).length:Nat)])) an=some (.lst (out.map V.int++[.int (((ansOf s x).map V.int).length:Nat)])):=upd_same
   have k5:∀ y,y≠an→upd H4 an (.lst (out.map V.int++[.int (((ansOf s x).map V.int).length:Nat)])) y=H4 y:=fun y hy=>upd_ne hy
   generalize upd H4 an (.lst (out.map V.int++[.int (((ansOf s x).map V.int).length:Nat)]))=H5 at h5 k5 ⊢
   have hr5:H5 r=some (.lst ((ansOf s x).map V.int)):=by rw [k5 r nra.symm];exact hr4
   refine ⟨_,rfl,.inl ⟨rfl,_,SqL.of h5⟩,_,rfl,an,r,_,_,rfl,rfl,h5,hr5,by rw [List.length_append,List.length_map,List.length_map];show _+1+_≤_;omega,?_⟩
   have h6:upd H5 an (.lst ((out.map V.int++[.int (((ansOf s x).map V.int).length:Nat)])++(ansOf s x).map V.int)) an=some (.lst ((out++(((ansOf s x).length:Int)::ansOf s x)).map V.int)):=by
    rw [upd_same,hlr,List.map_append,List.append_assoc];rfl
   have k6:∀ y,y≠an→upd H5 an (.lst ((out.map V.int++[.int (((ansOf s x).map V.int).length:Nat)])++(ansOf s x).map V.int)) y=H4 y:=fun y hy=>by rw [upd_ne hy,k5 y hy]
   generalize upd H5 an (.lst ((out.map V.int++[.int (((ansOf s x).map V.int).length:Nat)])++(ansOf s x).map V.int))=H6 at h6 k6 ⊢
   refine ⟨_,rfl,m - (endOf n i gs.length - i),by omega,endOf n i gs.length,B4,(does s x).1,out++(((ansOf s x).length:Int)::ansOf s x),cs',_,_,_,rfl,by omega,⟨⟨R4.at_.other (tg_ls han4) na4 k6,R4.live,R4.good⟩,?_,h6,na4,hle,hcs',hask',?_,?_⟩⟩
   ·refine (L.inp.keep (H':=H3) fun h=>e3 a (tg_some (by rw [h];decide))).keep fun h=>?_
    have oa:Oth H3 B a:=⟨.inr h,fun hm=>by
     have:=(L.book.kept e3).at_.lsT hm
     rw [h] at this
     cases this⟩
    rw [k6 a (fun e=>by rw [e,tg_ls (ks e3 L.outp)] at h;cases h),(O4 a oa).1]
   ·rw [← hanl,List.append_assoc]
   ·rw [List.length_append,List.length_cons];omega
  ·have c2:¬ (i:Int)<ns.length:=fun q=>c2 (decide_eq_true q)
   have hi:i=ns.length:=by have:=L.le;omega
   obtain ⟨f,hf⟩:=L.cls
   rw [List.drop_eq_nil_of_le (by omega)] at hf
   have hcs:cs=[]:=by cases f<;>· cases hf;rfl
   have hanl:=L.ans
   subst hcs
   have hanl:out++[]=PySh28.answers ns:=hanl
   rw [List.append_nil] at hanl
   refine ⟨_,rfl,k an H' (by rw [← hanl];exact L.outp) L.book.at_.bm L.book.at_.lt1 L.book.at_.lt2⟩
end
end Bk
namespace Bk
open PySem PySem.Spec PyProof.Rows L2
open PySem.W (tabObj)
theorem callT {P:Program}{w:World}{K:PySem.W.Frag}{mg mb:Str→Option Value}{A:Adr}{s₁:Shared}{a:Addr}{vs:List Value}{ns:List Int}{cl:Str→Option Addr}
  (KX:K.In s₁.heap) (hns:s₁.heap.Ns mainGlobals mg) (hb:s₁.heap.Ns builtinsNs mb) (hbb:∀ x:Str,x≠"__name__"→mb x=bootBuiltins x) (hlim:s₁.heap.NoLimit) (hg:s₁.gens=#[])
  (ha:s₁.heap.get? a=some { cls:=.type "list",data:=.seq vs.toArray }) (hi:IntsAre vs ns) (hl:ns.length≤sizeLine) (hr:Room 9 callerA)
  (T:Txt K mg A) (nk1:K.lookup A.t_Pieces_eldest=none) (nk2:K.lookup A.t_Ways_most=none) (nk3:K.lookup A.a_bm=none)
  (ht1:s₁.heap.get? A.t_Pieces_eldest=some (tabObj #[])) (ht2:s₁.heap.get? A.t_Ways_most=some (tabObj #[])) (hbm:s₁.heap.get? A.a_bm=some A.o_bm) (htn:A.t_Pieces_eldest≠A.t_Ways_most) (hask:PySh28.answers_asked ns=true) :
  codeAny (model P w) callerA (.call (.ref A.f_answers) ⟨[.ref a],[]⟩) (fun r s'=>(∃ p as,r=.ok (.ret (.ref p))∧PySem.W.ReadsW [] cl s'.heap (.ref p) (.list ((PySh28.answers ns).map PySem.W.WData.int)) as)∧OldK s₁.heap s'.heap∧s'.os=s₁.os∧AllBare s'.gens) s₁:=by
 have rv:=vals_ints hi
 have lenV:=hi.length
 have hsl:=PySem.sizeLine_eq
 have n1:a≠A.t_Pieces_eldest:=fun e=>by rw [e,ht1] at ha;cases ha
 have n2:a≠A.t_Ways_most:=fun e=>by rw [e,ht2] at ha;cases ha
 have n3:a≠A.a_bm:=fun e=>by
  have h3:=T.bm_5
  rw [e,hbm] at ha
  rw [Option.some.inj ha] at h3
  cases h3
 have m1:A.t_Pieces_eldest≠A.a_bm:=fun e=>by
  have h3:=T.bm_5
  rw [e,hbm] at ht1
  rw [Option.some.inj ht1] at h3
  cases h3
 have m2:A.t_Ways_most≠A.a_bm:=fun e=>by
  have h3:=T.bm_5
  rw [e,hbm] at ht2
  rw [Option.some.inj ht2] at h3
  cases h3
 have core:∀ H:Hp,H A.t_Pieces_eldest=some (.tbl #[])→H A.t_Ways_most=some (.tbl #[])→BmH A H→InL K H a (ns.map V.int)→HOk P w H s₁.heap→(∀ b,H b≠none→b=A.t_Pieces_eldest∨b=A.t_Ways_most∨b=A.a_bm∨(b=a∧∃ o xs,H b=some (.frz o (.lst xs))))→(H a≠none→K.lookup a=none) →
   codeAny (model P w) callerA (.call (.ref A.f_answers) ⟨[.ref a],[]⟩) (fun r s'=>(∃ p as,r=.ok (.ret (.ref p))∧PySem.W.ReadsW [] cl s'.heap (.ref p) (.list ((PySh28.answers ns).map PySem.W.WData.int)) as)∧OldK s₁.heap s'.heap∧s'.os=s₁.os∧AllBare s'.gens) s₁:=by
  intro H h1 h2 h3 hS hok hA hK
  have base_of:∀ {b:Addr}{o:Obj},s₁.heap.get? b=some o→H b=none→(hidT s₁.heap H).get? b=some o:=fun e n=>hidT_get e n
  have noA:∀ {b:Addr}{o:Obj}{es:Array DictEntry}{ep:Nat},s₁.heap.get? b=some o→o.data=.dict es ep→H b=none:=fun {b o es ep} e d=>by
   cases q:H b with
   | none=>rfl
   | some u =>
    rcases hA b (by rw [q];simp) with rfl | rfl | rfl | ⟨rfl,_⟩
    ·rw [ht1] at e;cases e;cases d
    ·rw [ht2] at e;cases e;cases d
    ·rw [hbm] at e;cases e;rw [T.bm_5] at d;cases d
    ·rw [ha] at e;cases e;cases d
  have nsK:∀ {b:Addr}{m:Str→Option Value},s₁.heap.Ns b m→(hidT s₁.heap H).Ns b m:=fun {b m} ⟨o,es,ep,e,d,r⟩=>⟨o,es,ep,base_of e (noA e d),d,r⟩
  have hKb:K.In (hidT s₁.heap H):=fun b o e=>base_of (KX b o e) (by
   cases q:H b with
   | none=>rfl
   | some u =>
    rcases hA b (by rw [q];simp) with rfl | rfl | rfl | ⟨rfl,_⟩
    ·rw [nk1] at e;cases e
    ·rw [nk2] at e;cases e
    ·rw [nk3] at e;cases e
    ·rw [hK (by rw [q];simp)] at e;cases e)
  have hM:Mod K mg (hidT s₁.heap H):=⟨hKb,nsK hns,⟨mb,nsK hb,hbb⟩,let ⟨mc,h1,h2⟩:=hlim;⟨mc,nsK h1,h2⟩⟩
  have e0:Env0 P w K mg (hidT s₁.heap H) callerA [] s₁ H:=⟨rfl,hM,fun b o e=>of_hidT e,Nat.le_of_eq (hidT_size _ _),trivial,fun b hb=>absurd (show b∈([]:List Addr) from hb) (by simp),hok,.of_eq hg⟩
  have hsp:sp_answers K A [.ref a] H (fun v H'=>∃ p,v=.ref p∧H' p=some (.lst ((PySh28.answers ns).map V.int))∧BmH A H') fun _ _ _=>False :=
   ⟨a,ns,rfl,hS,h3,⟨#[],h1,.inl rfl⟩,⟨#[],h2,.inl rfl⟩,htn,by omega,hask,fun r H' q1 q2 _ _=>⟨r,rfl,q1,q2⟩⟩
  refine codeAny_mono ((ok_answers (base:=hidT s₁.heap H) T).run callerA [] s₁ H ⟨[.ref a],[]⟩ [.ref a] [.ref a] _ _ hr e0 (T.u_answers.bi s₁ [.ref a] KX rfl) (.cons rfl .nil) hsp) fun r s' h=>?_
  cases r with
  | error e=>exact False.elim h
  | ok fl =>
   cases fl with
   | next=>exact False.elim h
   | brk=>exact False.elim h
   | cont=>exact False.elim h
   | ret u =>
    obtain ⟨v,H',os,bare,un,hok',r',q⟩:=h
    obtain ⟨p,hv,hp,hb'⟩:=q
    subst hv
    obtain rfl:u=Value.ref p:=r'
    obtain ⟨_,its,n,rits,eo⟩:=hok' p _ hp
    have tab:∀ {t c:Addr},H t=some (.tbl #[])→s₁.heap.get? t=some (tabObj #[])→PySem.W.codeHdIn K c t=true→asItWas s₁.heap s'.heap t (tabObj #[]):=fun {t c} ht hh hc=>by
     obtain ⟨more,hm⟩:=un.tbls t #[] ht
     obtain ⟨oc,vs',f,tf,fl,tg,b,n,tt,hx,c1,c2,h11,_⟩:=PySem.W.codeHd_of_K KX hc
     exact .inr (.inl ⟨⟨c,_,vs',hx,c1,c2,h11⟩,rfl,#[],more,rfl,hok' t _ hm⟩)
    refine ⟨⟨p,_,rfl,.list eo rfl rfl (by simpa using reads_ints rits)⟩,⟨fun b o e=>?_,fun b o e=>un.there b o e (by simp)⟩,os,bare⟩
    cases q:H b with
    | none=>exact .inl (un.keep b o e q (by intro z;exact absurd (show b∈([]:List Addr) from z) (by simp)) (by simp))
    | some u =>
     rcases hA b (by rw [q];simp) with rfl | rfl | rfl | ⟨rfl,ob,xs,z⟩
     ·rw [ht1] at e;cases e
      exact tab h1 ht1 T.lh_Pieces_eldest
     ·rw [ht2] at e;cases e
      exact tab h2 ht2 T.lh_Ways_most
     ·rw [hbm] at e;cases e
      exact .inl (hok' _ _ hb').1
     ·have z2:=un.frzs b ob _ z
      obtain ⟨e1,_⟩:=hok b _ z
      obtain ⟨e2,_⟩:=hok' b _ z2
      rw [e] at e1;cases e1
      exact .inl e2
 have hext:∀ h1 h2:Heap,h1.get? A.a_bm=some A.o_bm→(∀ o,h1.get? A.a_bm=some o→h2.get? A.a_bm=some o)→h2.get? A.a_bm=some A.o_bm:=fun h1 h2 e k=>k _ e
 cases hk:K.lookup a with
 | some o =>
  have e:=KX a o hk
  rw [ha] at e
  cases e
  refine core (fun b=>if b=A.t_Pieces_eldest then some (.tbl #[]) else if b=A.t_Ways_most then some (.tbl #[]) else if b=A.a_bm then some (.ext fun h=>h.get? A.a_bm=some A.o_bm) else none) (if_pos rfl) ((if_neg htn.symm).trans (if_pos rfl)) ((if_neg m1.symm).trans ((if_neg m2.symm).trans (if_pos rfl)))
   (.inr ⟨_,vs.toArray,_,hk,rfl,rfl,rfl,by rw [List.size_toArray,lenV];exact hl,by simpa using rv⟩) (fun b u z=>?_) (fun b z=>?_) fun z=>absurd ((if_neg n1).trans ((if_neg n2).trans (if_neg n3))) z
  ·by_cases c1:b=A.t_Pieces_eldest
   ·have z:=(if_pos c1).symm.trans z
    cases z;subst c1;exact ht1
   ·have z:=(if_neg c1).symm.trans z
    by_cases c2:b=A.t_Ways_most
    ·have z:=(if_pos c2).symm.trans z
     cases z;subst c2;exact ht2
    ·have z:=(if_neg c2).symm.trans z
     by_cases c3:b=A.a_bm
     ·have z:=(if_pos c3).symm.trans z
      cases z;subst c3;exact ⟨hbm,⟨_,hbm⟩,hext⟩
     ·have z:=(if_neg c3).symm.trans z
      cases z
  ·by_cases c1:b=A.t_Pieces_eldest
   ·exact .inl c1
   ·by_cases c2:b=A.t_Ways_most
    ·exact .inr (.inl c2)
    ·by_cases c3:b=A.a_bm
     ·exact .inr (.inr (.inl c3))
     ·exact absurd ((if_neg c1).trans ((if_neg c2).trans (if_neg c3))) z
 | none =>
  refine core (fun b=>if b=A.t_Pieces_eldest then some (.tbl #[]) else if b=A.t_Ways_most then some (.tbl #[]) else if b=A.a_bm then some (.ext fun h=>h.get? A.a_bm=some A.o_bm) else if b=a then some (.frz { cls:=.type "list",data:=.seq vs.toArray } (.lst (ns.map V.int))) else none) (if_pos rfl) ((if_neg htn.symm).trans (if_pos rfl)) ((if_neg m1.symm).trans ((if_neg m2.symm).trans (if_pos rfl)))
   (.inl ⟨_,(if_neg n1).trans ((if_neg n2).trans ((if_neg n3).trans (if_pos rfl)))⟩) (fun b u z=>?_) (fun b z=>?_) fun _=>hk
  ·by_cases c1:b=A.t_Pieces_eldest
   ·have z:=(if_pos c1).symm.trans z
    cases z;subst c1;exact ht1
   ·have z:=(if_neg c1).symm.trans z
    by_cases c2:b=A.t_Ways_most
    ·have z:=(if_pos c2).symm.trans z
     cases z;subst c2;exact ht2
    ·have z:=(if_neg c2).symm.trans z
     by_cases c3:b=A.a_bm
     ·have z:=(if_pos c3).symm.trans z
      cases z;subst c3;exact ⟨hbm,⟨_,hbm⟩,hext⟩
     ·have z:=(if_neg c3).symm.trans z
      by_cases c4:b=a
      ·have z:=(if_pos c4).symm.trans z
       cases z;subst c4
       exact ⟨ha,by rw [List.length_map];exact hl,vs,_,rv,ha⟩
      ·have z:=(if_neg c4).symm.trans z
       cases z
  ·by_cases c1:b=A.t_Pieces_eldest
   ·exact .inl c1
   ·by_cases c2:b=A.t_Ways_most
    ·exact .inr (.inl c2)
    ·by_cases c3:b=A.a_bm
     ·exact .inr (.inr (.inl c3))
     ·by_cases c4:b=a
      ·exact .inr (.inr (.inr ⟨c4,_,_,(if_neg c1).trans ((if_neg c2).trans ((if_neg c3).trans (if_pos c4)))⟩))
      ·exact absurd ((if_neg c1).trans ((if_neg c2).trans ((if_neg c3).trans (if_neg c4)))) z
theorem room9:Room 9 callerA:=⟨rfl,by decide,by decide⟩
theorem walkT {P:Program}{name:Str}{l m:Nat}{lo hi:Int}{l2 m2:Nat}{lo2 hi2:Int}{q:Program}{loose:List Str}{XP:(Str→Option Value)→Heap→Prop}{YP:World→Heap→Prop}{d:DefRec}
  (hm:m≤sizeLine) (hdn:d.name="answers") (hY:∀ (w:World) (h:Heap),YP w h→∃ K:PySem.W.Frag,K.In h∧(∀ p∈[(196:Addr),437],h.get? p=some (tabObj #[])) ∧
   ∀ (mg:Str→Option Value) (ob:Obj),h.Ns mainGlobals mg→ob.cls=.type "module"→ob.dict=some builtinsNs→ob.data=.plain →
   ∃ A,Txt K mg A∧A.t_Pieces_eldest=196∧A.t_Ways_most=437∧A.o_bm=ob∧K.lookup 196=none∧K.lookup 437=none∧K.lookup A.a_bm=none) :
  PySem.W.WalkOS q loose XP YP (mkSpec P name l m lo hi l2 m2 lo2 hi2 PySh28.answers_asked PySh28.answers) d [] (fun f vs=>PySem.call f vs):=by
 intro w s₀ s₁ mg mb G Y fa o pm cd doc dV kV ho hd hcd hD hmg hg args vals as hpre hlay hrd hwl hlo
 obtain ⟨ns,rfl,hdec,hask,hlen,hbd⟩:=spec_pre hpre
 cases hwl with
 | cons w1 w2 =>
  cases w2
  cases w1 with
  | list hobj hall =>
   have hints:=Att.ints_of_wellAll ns _ hall
   obtain ⟨K,KX,htab,hT⟩:=hY w _ Y
   obtain ⟨bm,ob,b1,b2,b3,b4,b5,b6⟩:=G.T.bmain
   obtain ⟨A,T,t1,t2,t3,k1,k2,k3⟩:=hT mg ob G.T.g b4 b5 b6
   have hbm:A.a_bm=bm:=by
    have:=T.bm_m
    rw [b1] at this
    cases this;rfl
   have hfa:A.f_answers=fa:=by
    have:=T.u_answers.mg
    rw [hdn,this] at hmg
    cases hmg;rfl
   subst hfa
   refine PySem.W.enter_call (codeAny_mono (callT (cl:=PySem.classAt s₀.heap) KX G.T.g G.T.b G.T.builtins G.T.nolimit hg hobj hints (Nat.le_trans hlen hm) room9 T (by rw [t1];exact k1) (by rw [t2];exact k2) k3 (by rw [t1];exact htab _ (by decide)) (by rw [t2];exact htab _ (by decide)) (by rw [hbm,t3];exact b3) (by rw [t1,t2];decide) hask) fun r s' hq=>?_)
   obtain ⟨⟨p,as',rfl,hrd'⟩,h2,h3,h4⟩:=hq
   exact ⟨.inl ⟨.ref p,.list ((PySh28.answers ns).map PySem.W.WData.int),as',rfl,fun _=>rfl,hrd',PySem.W.os_post hdec (PySem.W.same_self _),fun h=>absurd h Bool.false_ne_true⟩,h2,h3,h4⟩
end Bk
namespace Bk
open PySem PySem.W PySem.Spec PyProof.Rows L2
def AL:List Addr:=[3,15,34,35,41,42,48,49,55,56,62,63,69,70,76,77,83,84,97,98,104,105,111,112,118,119,123,124,126,127,144,145,147,148,158,159,172,173,179,180,186,187,193,194,200,201,207,208,214,215,221,222,228,229,235,236,238,239,249,250,256,257,270,271,277,278,284,285,291,292,298,299,305,306,308,309,317,318,331,332,334,335,345,346,359,360,366,367,373,374,380,381,387,388,394,395,401,402,408,409,413,414,420,421,427,428,434,435,441,442,446,447,451,452,456,457,463,464,466,467,477,478,484,485,498,499,505,506,512,513,519,520,526,527,533,534,540,541,547,548,554,555,561,562,568,569,575,576,580,581,587,588,594,595,601,602,606,607,613,614,620,621,627,628,634,635,639,640,646,647,653,654,660,661,665,666,668,669,679,680]
def kof (h:Heap):Frag:=AL.filterMap fun a=>(h.get? a).map fun o=>(a,o)
theorem fm_lookup {h:Heap}:∀ (l:List Addr) {a:Addr}{o:Obj},(l.filterMap fun a=>(h.get? a).map fun o=>(a,o)).lookup a=some o→h.get? a=some o
 | [],a,o,e=>by cases e
 | b::l,a,o,e=>by
  rw [List.filterMap_cons] at e
  cases hb:h.get? b with
  | none=>rw [hb] at e;exact fm_lookup l e
  | some x =>
   rw [hb] at e
   change List.lookup a ((b,x)::_)=some o at e
   rw [List.lookup_cons] at e
   cases hab:(a == b) with
   | true=>rw [hab] at e;cases e;rw [beq_iff_eq.mp hab];exact hb
   | false=>rw [hab] at e;exact fm_lookup l e
theorem kof_in (h:Heap):(kof h).In h:=fun a o e=>fm_lookup AL e
abbrev gR (K:Frag) (x:Str) (a:Addr):Bool:=nsIn K mainGlobals x == some (some (.ref a))
abbrev fR (K:Frag) (C:Addr) (x:Str) (a:Addr):Bool:=findIn K (.ref C) x == some (some (.ref a))
def tN (K:Frag) (x:Str):Bool:=nsIn K mainGlobals x == some none
def tI (K:Frag) (x:Str × Int):Bool:=match nsIn K mainGlobals x.1 with
 | some (some (.int k _))=>k == x.2
 | _=>false
def tC (K:Frag) (x:Str × Addr × Addr):Bool:=gR K x.1 x.2.1 && (plainGet K x.2.1 Str.empty && (hasDictIn K x.2.1 && (plainOver K x.2.1 && ((findIn K (.ref x.2.1) "__setattr__" == some (some (.builtin "object.__setattr__"))) && (makesIn K x.2.1 && (fR K x.2.1 "__init__" x.2.2 && (isFn K (.ref x.2.2) && keepIn K (.ref x.2.1))))))))
def tD (K:Frag) (x:Addr × Str):Bool:=findIn K (.ref x.1) x.2 == some none
def fdAt (K:Frag) (f:Addr):FuncData:=match K.lookup f with
 | some ⟨_,_,.func fd,_⟩=>fd
 | _=>default
structure MI where
 C:Addr
 m:Str
 q:Str
 f:Addr
 s:Stmt
def tM (K:Frag) (x:MI):Bool:=fR K x.C x.m x.f && (isFn K (.ref x.f) && (codeIn K (fdAt K x.f).code x.q && keepIn K (.ref x.f)))
def tF (K:Frag) (x:MI):Bool:=gR K x.m x.f && (codeIn K (fdAt K x.f).code x.m && keepIn K (.ref x.f))
def tV:List Int→List Value→Bool
 | [],[]=>true
 | n::l,.int k _::r=>k == n && tV l r
 | _,_=>false
def tT (K:Frag) (a:Addr) (l:List Int):Bool:=match K.lookup a with
 | some ⟨.type c,_,.seq its _,_⟩=>c == "tuple" && (Nat.ble its.size 100 && tV l its.toList)
 | _=>false
def er (K:Frag) (f:Addr):Option FuncData:=match K.lookup f with
 | some ⟨_,_,.func fd,_⟩=>some { fd with kwdefaults:=.none,doc:=.none,pyModule:=.none,annotations:=none,code:=.none,closureTuple:=.none }
 | _=>none
abbrev fo (x:MI) (kV doc pm:Value) (an:Option Addr) (cdv ct:Value):FuncData:=fnOf x.m x.q (defArgs x.s) (defBody x.s) (defScope x.s) .none kV doc pm an cdv ct
def sp (x:MI):Option FuncData:=some (fo x .none .none .none none .none .none)
def eL (K:Frag):List MI→List (Option FuncData)
 | []=>[]
 | x::l=>er K x.f::eL K l
theorem alx {α:Type}{l:List α}{p:α→Bool} (h:l.all p=true) (i:Nat) {x:α} (e:l[i]?=some x):p x=true:=List.all_eq_true.mp h x (List.mem_of_getElem? e)
theorem itx {K:Frag}:∀ {l:List MI},eL K l=l.map sp→∀ (i:Nat) {x:MI},l[i]?=some x→er K x.f=sp x
 | y::l,h,0,x,e=>by cases e;exact (List.cons.inj h).1
 | y::l,h,i+1,x,e=>itx (l:=l) (List.cons.inj h).2 i e
theorem b1 {P:List Value→Prop} (h:∀ a,P [a]:=by intros;rfl):∀ us:List Value,us.length=1→P us
 | [_],_=>h _
theorem b2 {P:List Value→Prop} (h:∀ a b,P [a,b]:=by intros;rfl):∀ us:List Value,us.length=2→P us
 | [_,_],_=>h _ _
theorem b3 {P:List Value→Prop} (h:∀ a b c,P [a,b,c]:=by intros;rfl):∀ us:List Value,us.length=3→P us
 | [_,_,_],_=>h _ _ _
theorem b4 {P:List Value→Prop} (h:∀ a b c d,P [a,b,c,d]:=by intros;rfl):∀ us:List Value,us.length=4→P us
 | [_,_,_,_],_=>h _ _ _ _
theorem b6 {P:List Value→Prop} (h:∀ a b c d e f,P [a,b,c,d,e,f]:=by intros;rfl):∀ us:List Value,us.length=6→P us
 | [_,_,_,_,_,_],_=>h _ _ _ _ _ _
section
variable {K:Frag}{mg:Str→Option Value}{h:Heap}
theorem fd_of {x:MI} (e:er K x.f=sp x):∃ oc od osl kV doc pm an cdv ct,K.lookup x.f=some ⟨oc,od,.func (fo x kV doc pm an cdv ct),osl⟩∧fdAt K x.f=fo x kV doc pm an cdv ct:=by
 unfold er at e
 split at e
 ·rename_i oc od fd osl hl
  obtain ⟨⟩:=fd
  cases e
  exact ⟨oc,od,osl,_,_,_,_,_,_,hl,by unfold fdAt;rw [hl];rfl⟩
 ·cases e
theorem nM {l:List MI}{C f:Addr}{m qual:Str}{st:Stmt}{ps:List Str} (t:l.all (tM K)=true) (E:eL K l=l.map sp) (i:Nat) (e:l[i]?=some ⟨C,m,qual,f,st⟩)
  (h:∀ us:List Value,us.length=ps.length→∀ (kV doc pm:Value) (an:Option Addr) (cdv ct:Value),bindArgs (fnOf m qual (defArgs st) (defBody st) (defScope st) .none kV doc pm an cdv ct) ⟨us,[]⟩=pure (ps.zip us)):MethOk K C m qual st ps f (fdAt K f):=by
 obtain ⟨t1,t2⟩:=Bool.and_eq_true_iff.mp (alx t i e)
 obtain ⟨t2,t3⟩:=Bool.and_eq_true_iff.mp t2
 obtain ⟨t3,t4⟩:=Bool.and_eq_true_iff.mp t3
 obtain ⟨oc,od,osl,kV,doc,pm,an,cdv,ct,hl,hf⟩:=fd_of (itx E i e)
 have t3':codeIn K (fdAt K f).code qual=true:=t3
 have hf:fdAt K f=fnOf m qual (defArgs st) (defBody st) (defScope st) .none kV doc pm an cdv ct:=hf
 rw [hf] at t3' ⊢
 exact mk_meth (eq_of_beq t1) t2 hl t3' t4 fun _ _ _ _ _ _ us hu=>h us hu _ _ _ _ _ _
theorem nC {l:List (Str × Addr × Addr)}{x:Str}{C f:Addr} (t:l.all (tC K)=true) (i:Nat) (e:l[i]?=some (x,C,f)):Cls K C∧gR K x C=true∧Mk K C f:=by
 obtain ⟨t0,t⟩:=Bool.and_eq_true_iff.mp (alx t i e)
 obtain ⟨t1,t⟩:=Bool.and_eq_true_iff.mp t
 obtain ⟨t2,t⟩:=Bool.and_eq_true_iff.mp t
 obtain ⟨t3,t⟩:=Bool.and_eq_true_iff.mp t
 obtain ⟨t4,t⟩:=Bool.and_eq_true_iff.mp t
 obtain ⟨t5,t⟩:=Bool.and_eq_true_iff.mp t
 obtain ⟨t6,t⟩:=Bool.and_eq_true_iff.mp t
 obtain ⟨t7,t8⟩:=Bool.and_eq_true_iff.mp t
 exact ⟨mk_cls t1 t2 t3 (eq_of_beq t4),t0,⟨t5,eq_of_beq t6,t7,t8⟩⟩
theorem nD {l:List (Addr × Str)}{C:Addr}{m:Str}{ks:List Str}{j:Nat} (c:Cls K C) (t:l.all (tD K)=true) (i:Nat) (e:l[i]?=some (C,m)) (q:(ks.findIdx? (fun k=>k == m) == some j)=true:=by decide +kernel) (z:ks.length<1000:=by decide):Fd K C ks m j:=mk_fd c (eq_of_beq (alx t i e)) q z
theorem nV:∀ {l:List Int}{vs:List Value},tV l vs=true→Vals (l.map V.int) vs
 | [],[],_=>.nil
 | n::l,.int k t::r,e=>by
  obtain ⟨e1,e2⟩:=Bool.and_eq_true_iff.mp e
  rw [← beq_iff_eq.mp e1]
  exact .cons ⟨t,rfl⟩ (nV e2)
theorem nT {a:Addr}{l:List Int} (e:tT K a l=true):∃ (o:Obj) (its:Array Value) (n:Nat),K.lookup a=some o∧o.cls=.type "tuple"∧o.data=.seq its n∧its.size≤sizeLine∧Vals (l.map V.int) its.toList:=by
 unfold tT at e
 split at e
 ·rename_i c d its n osl hl
  obtain ⟨e1,e2⟩:=Bool.and_eq_true_iff.mp e
  obtain ⟨e2,e3⟩:=Bool.and_eq_true_iff.mp e2
  exact ⟨_,its,n,hl,by rw [beq_iff_eq.mp e1],rfl,Nat.le_trans (Nat.le_of_ble_eq_true e2) (by decide),nV e3⟩
 ·cases e
variable (X:K.In h) (G:h.Ns mainGlobals mg)
include X G
theorem nN {l:List Str}{x:Str} (t:l.all (tN K)=true) (i:Nat) (e:l[i]?=some x):mg x=none:=mg_none_of X G (eq_of_beq (alx t i e))
theorem nI {l:List (Str × Int)}{x:Str}{n:Int} (t:l.all (tI K)=true) (i:Nat) (e:l[i]?=some (x,n)):∃ t,mg x=some (.int n t):=by
 have e:=alx t i e
 unfold tI at e
 split at e
 ·rename_i k t hk
  exact ⟨t,by rw [mg_of X G hk,beq_iff_eq.mp e]⟩
 ·cases e
theorem nR {x:Str}{a:Addr} (e:gR K x a=true):mg x=some (.ref a):=mg_of X G (eq_of_beq e)
theorem nF {l:List MI}{C f:Addr}{m:Str}{st:Stmt}{ps:List Str} (t:l.all (tF K)=true) (E:eL K l=l.map sp) (i:Nat) (e:l[i]?=some ⟨C,m,m,f,st⟩)
  (h:∀ us:List Value,us.length=ps.length→∀ (kV doc pm:Value) (an:Option Addr) (cdv ct:Value),bindArgs (fnOf m m (defArgs st) (defBody st) (defScope st) .none kV doc pm an cdv ct) ⟨us,[]⟩=pure (ps.zip us)):FunOk K mg m st ps f (fdAt K f):=by
 obtain ⟨t1,t2⟩:=Bool.and_eq_true_iff.mp (alx t i e)
 obtain ⟨t3,t4⟩:=Bool.and_eq_true_iff.mp t2
 obtain ⟨oc,od,osl,kV,doc,pm,an,cdv,ct,hl,hf⟩:=fd_of (itx E i e)
 have t3':codeIn K (fdAt K f).code m=true:=t3
 have hf:fdAt K f=fnOf m m (defArgs st) (defBody st) (defScope st) .none kV doc pm an cdv ct:=hf
 rw [hf] at t3' ⊢
 exact mk_fun X G (eq_of_beq t1) hl t3' t4 fun _ _ _ _ _ _ us hu=>h us hu _ _ _ _ _ _
end
abbrev pI (x:Str) (n:Int):=(x,n)
abbrev pD (a:Addr) (x:Str):=(a,x)
def NB:List Str:=["all","enumerate","len","list","max","ord","sorted","str","sum","zip"]
def NI:List (Str × Int):=[pI "AGES" 13,pI "AGE_CLASSES" 64,pI "ALL_LIVE" 3,pI "BEGIN" 0,pI "BYTES_BY_SIZE" 1,pI "ENTER" 1,pI "FIND" 10,pI "FULL" (-6),pI "HOLDS" 18,pI "LEAVE" 2,pI "LINES" 22,pI "MADE" 5,pI "MARK" 16,pI "MOST_ASKED" 1024,pI "MOST_DEPTH" 64,pI "MOST_MARKS" 64,pI "MOST_NODES" 4096,pI "MOST_PIECES" 65536,pI "MOST_PLACE" 1099511627775,pI "MOST_RATE" 4294967295,pI "MOST_SIZE" 4294967295,pI "MOST_TEXT" 1048576,pI "MOST_TICK" 4294967295,pI "MOST_WHO" 65535,pI "MOVED" 7,pI "NODE" 9,pI "NOT_FREE" (-3),pI "NOT_SO_LONG" (-5),pI "NOT_THERE" (-4),pI "NOW" 8,pI "NOWHERE" (-1),pI "OLDEST" 14,pI "OUT_OF_RANGE" (-8),pI "OWN_LIVE" 0,pI "OWN_MADE" 1,pI "OWN_PEAK" 2,pI "PATH" 11,pI "PICK" 20,pI "PICKED" 21,pI "PIECES_BY_AGE" 2,pI "PIECES_BY_SIZE" 0,pI "SHARE" 19,pI "SINCE" 17,pI "SIZES" 12,pI "SIZE_CLASSES" 124,pI "SUM_END" 9223372036854775808,pI "TICK" 4,pI "TOO_GREAT" (-7),pI "TOP" 15,pI "UNWIND" 3,pI "WENT" 6,pI "WHOLE" 10000]
def CL:List (Str × Addr × Addr):=[("Picks",127,98),("Piece",148,145),("Pieces",239,173),("Rows",309,271),("Node",335,332),("Ways",467,360),("Book",669,499)]
def DL:List (Addr × Str):=[pD 127 "rate",pD 127 "unpicked",pD 127 "total",pD 127 "by_node",pD 148 "number",pD 148 "place",pD 148 "size",pD 148 "owner",pD 148 "born",pD 239 "by_place",pD 239 "places",pD 309 "size_made",pD 309 "size_live",pD 309 "age_went",pD 309 "age_bytes",pD 335 "above",pD 335 "who",pD 335 "depth",pD 335 "made_pieces",pD 335 "made_bytes",pD 335 "live_pieces",pD 335 "live_bytes",pD 335 "peak_bytes",pD 335 "all_live_pieces",pD 335 "all_live_bytes",pD 335 "all_made_bytes",pD 467 "nodes",pD 467 "steps",pD 467 "here",pD 669 "time",pD 669 "ways",pD 669 "pieces",pD 669 "rows",pD 669 "picks",pD 669 "marks",pD 669 "live_bytes",pD 669 "peak_bytes",pD 669 "peak_time",pD 669 "made_pieces",pD 669 "made_bytes",pD 669 "went_pieces"]
def M_Picks:List MI:=[⟨127,"__init__","Picks.__init__",98,s_Picks___init__⟩,⟨127,"start","Picks.start",105,s_Picks_start⟩,⟨127,"note_made","Picks.note_made",112,s_Picks_note_made⟩,⟨127,"count_picked","Picks.count_picked",119,s_Picks_count_picked⟩,⟨127,"of_nodes","Picks.of_nodes",124,s_Picks_of_nodes⟩]
def M_Piece:List MI:=[⟨148,"__init__","Piece.__init__",145,s_Piece___init__⟩]
def M_Pieces:List MI:=[⟨239,"__init__","Pieces.__init__",173,s_Pieces___init__⟩,⟨239,"how_many","Pieces.how_many",180,s_Pieces_how_many⟩,⟨239,"has","Pieces.has",187,s_Pieces_has⟩,⟨239,"living","Pieces.living",194,s_Pieces_living⟩,⟨239,"eldest","Pieces.eldest",201,s_Pieces_eldest⟩,⟨239,"rank","Pieces.rank",208,s_Pieces_rank⟩,⟨239,"holder","Pieces.holder",215,s_Pieces_holder⟩,⟨239,"is_free","Pieces.is_free",222,s_Pieces_is_free⟩,⟨239,"put","Pieces.put",229,s_Pieces_put⟩,⟨239,"take","Pieces.take",236,s_Pieces_take⟩]
def M_Rows:List MI:=[⟨309,"__init__","Rows.__init__",271,s_Rows___init__⟩,⟨309,"note_made","Rows.note_made",278,s_Rows_note_made⟩,⟨309,"note_moved","Rows.note_moved",285,s_Rows_note_moved⟩,⟨309,"note_went","Rows.note_went",292,s_Rows_note_went⟩,⟨309,"by_size","Rows.by_size",299,s_Rows_by_size⟩,⟨309,"by_age","Rows.by_age",306,s_Rows_by_age⟩]
def M_Node:List MI:=[⟨335,"__init__","Node.__init__",332,s_Node___init__⟩]
def M_Ways:List MI:=[⟨467,"__init__","Ways.__init__",360,s_Ways___init__⟩,⟨467,"has","Ways.has",367,s_Ways_has⟩,⟨467,"depth_here","Ways.depth_here",374,s_Ways_depth_here⟩,⟨467,"enter","Ways.enter",381,s_Ways_enter⟩,⟨467,"unwind","Ways.unwind",388,s_Ways_unwind⟩,⟨467,"leave","Ways.leave",395,s_Ways_leave⟩,⟨467,"find","Ways.find",402,s_Ways_find⟩,⟨467,"nodes_up","Ways.nodes_up",409,s_Ways_nodes_up⟩,⟨467,"whos","Ways.whos",414,s_Ways_whos⟩,⟨467,"count_made","Ways.count_made",421,s_Ways_count_made⟩,⟨467,"count_live","Ways.count_live",428,s_Ways_count_live⟩,⟨467,"sums","Ways.sums",435,s_Ways_sums⟩,⟨467,"most","Ways.most",442,s_Ways_most⟩,⟨467,"line","Ways.line",447,s_Ways_line⟩,⟨467,"text","Ways.text",452,s_Ways_text⟩,⟨467,"live_sums","Ways.live_sums",457,s_Ways_live_sums⟩,⟨467,"changes","Ways.changes",464,s_Ways_changes⟩]
def M_Book:List MI:=[⟨669,"__init__","Book.__init__",499,s_Book___init__⟩,⟨669,"begin","Book.begin",506,s_Book_begin⟩,⟨669,"enter","Book.enter",513,s_Book_enter⟩,⟨669,"leave","Book.leave",520,s_Book_leave⟩,⟨669,"unwind","Book.unwind",527,s_Book_unwind⟩,⟨669,"tick","Book.tick",534,s_Book_tick⟩,⟨669,"made","Book.made",541,s_Book_made⟩,⟨669,"went","Book.went",548,s_Book_went⟩,⟨669,"moved","Book.moved",555,s_Book_moved⟩,⟨669,"count_live","Book.count_live",562,s_Book_count_live⟩,⟨669,"now","Book.now",569,s_Book_now⟩,⟨669,"node","Book.node",576,s_Book_node⟩,⟨669,"find","Book.find",581,s_Book_find⟩,⟨669,"path","Book.path",588,s_Book_path⟩,⟨669,"sizes","Book.sizes",595,s_Book_sizes⟩,⟨669,"ages","Book.ages",602,s_Book_ages⟩,⟨669,"oldest","Book.oldest",607,s_Book_oldest⟩,⟨669,"top","Book.top",614,s_Book_top⟩,⟨669,"mark","Book.mark",621,s_Book_mark⟩,⟨669,"since","Book.since",628,s_Book_since⟩,⟨669,"holds","Book.holds",635,s_Book_holds⟩,⟨669,"weighed","Book.weighed",640,s_Book_weighed⟩,⟨669,"share","Book.share",647,s_Book_share⟩,⟨669,"pick","Book.pick",654,s_Book_pick⟩,⟨669,"picked","Book.picked",661,s_Book_picked⟩,⟨669,"lines","Book.lines",666,s_Book_lines⟩]
def ML:List MI:=M_Picks++M_Piece++M_Pieces++M_Rows++M_Node++M_Ways++M_Book
def FL:List MI:=[⟨0,"answer_to_change","answer_to_change",35,s_answer_to_change⟩,⟨0,"answer_to_question","answer_to_question",42,s_answer_to_question⟩,⟨0,"answer_to_ranking","answer_to_ranking",49,s_answer_to_ranking⟩,⟨0,"answer_to_view","answer_to_view",56,s_answer_to_view⟩,⟨0,"answer_to","answer_to",63,s_answer_to⟩,⟨0,"first_given","first_given",70,s_first_given⟩,⟨0,"end_given","end_given",77,s_end_given⟩,⟨0,"within","within",84,s_within⟩,⟨0,"end_of","end_of",159,s_end_of⟩,⟨0,"size_class","size_class",250,s_size_class⟩,⟨0,"age_class","age_class",257,s_age_class⟩,⟨0,"least_reaching","least_reaching",318,s_least_reaching⟩,⟨0,"sum_of","sum_of",346,s_sum_of⟩,⟨0,"joined","joined",478,s_joined⟩,⟨0,"counted","counted",485,s_counted⟩,⟨0,"answers","answers",680,s_answers⟩]
def xt (K:Frag):Bool:=gR K "NUMBERS_BEHIND" 15 && (tT K 15 [0,1,0,1,1,2,1,3,0,1,0,1,0,0,1,2,0,1,1,2,1,0,1] && ((fdAt K 201).code == .ref 200 && (codeHdIn K 200 196 && ((fdAt K 442).code == .ref 441 && (codeHdIn K 441 437 && (gR K "__builtins__" 4 && ((K.lookup 196).isNone && ((K.lookup 437).isNone && (K.lookup 4).isNone))))))))
def ck1 (K:Frag):Bool:=NB.all (tN K) && (NI.all (tI K) && (FL.all (tF K) && xt K))
def ck2 (K:Frag):Bool:=CL.all (tC K) && DL.all (tD K)
def ck3 (K:Frag):Bool:=ML.all (tM K)
def chk (K:Frag):Bool:=ck1 K && (ck2 K && ck3 K)
set_option maxHeartbeats 4000000 in
theorem tx_of {K:Frag}{mg:Str→Option Value}{h:Heap}{ob:Obj} (c:chk K=true) (E:eL K ML=ML.map sp) (E':eL K FL=FL.map sp) (X:K.In h) (G:h.Ns mainGlobals mg) (o3:ob.cls=.type "module") (o4:ob.dict=some builtinsNs) (o5:ob.data=.plain) :
  ∃ A,Txt K mg A∧A.t_Pieces_eldest=196∧A.t_Ways_most=437∧A.o_bm=ob∧K.lookup 196=none∧K.lookup 437=none∧K.lookup A.a_bm=none:=by
 obtain ⟨c,hC⟩:=Bool.and_eq_true_iff.mp c
 obtain ⟨hC,hM⟩:=Bool.and_eq_true_iff.mp hC
 obtain ⟨hC,hD⟩:=Bool.and_eq_true_iff.mp hC
 obtain ⟨hN,c⟩:=Bool.and_eq_true_iff.mp c
 obtain ⟨hI,c⟩:=Bool.and_eq_true_iff.mp c
 obtain ⟨hF,c⟩:=Bool.and_eq_true_iff.mp c
 obtain ⟨e0,c⟩:=Bool.and_eq_true_iff.mp c
 obtain ⟨e1,c⟩:=Bool.and_eq_true_iff.mp c
 obtain ⟨e2,c⟩:=Bool.and_eq_true_iff.mp c
 obtain ⟨e3,c⟩:=Bool.and_eq_true_iff.mp c
 obtain ⟨e4,c⟩:=Bool.and_eq_true_iff.mp c
 obtain ⟨e5,c⟩:=Bool.and_eq_true_iff.mp c
 obtain ⟨e6,c⟩:=Bool.and_eq_true_iff.mp c
 obtain ⟨n1,c⟩:=Bool.and_eq_true_iff.mp c
 obtain ⟨n2,n3⟩:=Bool.and_eq_true_iff.mp c
 have c0:=nC hC 0 rfl;have c1:=nC hC 1 rfl;have c2:=nC hC 2 rfl;have c3:=nC hC 3 rfl;have c4:=nC hC 4 rfl;have c5:=nC hC 5 rfl;have c6:=nC hC 6 rfl
 exact ⟨⟨_,_,_,_,_,_,_,_,_,_,_,_,_,_,_,_,_,_,_,_,_,_,_,_,_,_,_,_,_,_,_,_,_,_,_,_,_,_,_,_,_,_,_,_,_,_,_,_,_,_,_,_,_,_,_,_,_,_,_,_,_,_,_,_,_,_,_,_,_,_,_,_,_,_,_,_,_,_,_,_,_,_,_,_,_,_,_,_,_,_,_,_,_,_,_,_,_,_,_,_,_,_,_,_,_,_,_,_,_,_,_,_,_,_,_,_,_,_,_,_,_,_,_,_,_,_,_,_,_,_,_,_,_,_,_,_,_,_,_,_,_,_,_,_,_,_,_,_,_,_,_,_,_,_,_,_,_,_,_,_,_,_,_,_,_,_,_,_,_,_,_,_,_,196,_,437,4,ob⟩,Txt.mk (nN X G hN 0 rfl) (nN X G hN 1 rfl) (nN X G hN 2 rfl) (nN X G hN 3 rfl) (nN X G hN 4 rfl) (nN X G hN 5 rfl) (nN X G hN 6 rfl) (nN X G hN 7 rfl) (nN X G hN 8 rfl) (nN X G hN 9 rfl) (nI X G hI 0 rfl) (nI X G hI 1 rfl) (nI X G hI 2 rfl) (nI X G hI 3 rfl) (nI X G hI 4 rfl) (nI X G hI 5 rfl) (nI X G hI 6 rfl) (nI X G hI 7 rfl) (nI X G hI 8 rfl) (nI X G hI 9 rfl) (nI X G hI 10 rfl) (nI X G hI 11 rfl) (nI X G hI 12 rfl) (nI X G hI 13 rfl) (nI X G hI 14 rfl) (nI X G hI 15 rfl) (nI X G hI 16 rfl) (nI X G hI 17 rfl) (nI X G hI 18 rfl) (nI X G hI 19 rfl) (nI X G hI 20 rfl) (nI X G hI 21 rfl) (nI X G hI 22 rfl) (nI X G hI 23 rfl) (nI X G hI 24 rfl) (nI X G hI 25 rfl) (nI X G hI 26 rfl) (nI X G hI 27 rfl) (nI X G hI 28 rfl) (nI X G hI 29 rfl) (nI X G hI 30 rfl) (nR X G e0) (nT e1) (nI X G hI 31 rfl) (nI X G hI 32 rfl) (nI X G hI 33 rfl) (nI X G hI 34 rfl) (nI X G hI 35 rfl) (nI X G hI 36 rfl) (nI X G hI 37 rfl) (nI X G hI 38 rfl) (nI X G hI 39 rfl) (nI X G hI 40 rfl) (nI X G hI 41 rfl) (nI X G hI 42 rfl) (nI X G hI 43 rfl) (nI X G hI 44 rfl) (nI X G hI 45 rfl) (nI X G hI 46 rfl) (nI X G hI 47 rfl) (nI X G hI 48 rfl) (nI X G hI 49 rfl) (nI X G hI 50 rfl) (nI X G hI 51 rfl) c0.1 (nD c0.1 hD 0 rfl) (nD c0.1 hD 1 rfl) (nD c0.1 hD 2 rfl) (nD c0.1 hD 3 rfl) (nR X G c0.2.1) c0.2.2 c1.1 (nD c1.1 hD 4 rfl) (nD c1.1 hD 5 rfl) (nD c1.1 hD 6 rfl) (nD c1.1 hD 7 rfl) (nD c1.1 hD 8 rfl) (nR X G c1.2.1) c1.2.2 c2.1 (nD c2.1 hD 9 rfl) (nD c2.1 hD 10 rfl) (nR X G c2.2.1) c2.2.2 c3.1 (nD c3.1 hD 11 rfl) (nD c3.1 hD 12 rfl) (nD c3.1 hD 13 rfl) (nD c3.1 hD 14 rfl) (nR X G c3.2.1) c3.2.2 c4.1 (nD c4.1 hD 15 rfl) (nD c4.1 hD 16 rfl) (nD c4.1 hD 17 rfl) (nD c4.1 hD 18 rfl) (nD c4.1 hD 19 rfl) (nD c4.1 hD 20 rfl) (nD c4.1 hD 21 rfl) (nD c4.1 hD 22 rfl) (nD c4.1 hD 23 rfl) (nD c4.1 hD 24 rfl) (nD c4.1 hD 25 rfl) (nR X G c4.2.1) c4.2.2 c5.1 (nD c5.1 hD 26 rfl) (nD c5.1 hD 27 rfl) (nD c5.1 hD 28 rfl) (nR X G c5.2.1) c5.2.2 c6.1 (nD c6.1 hD 29 rfl) (nD c6.1 hD 30 rfl) (nD c6.1 hD 31 rfl) (nD c6.1 hD 32 rfl) (nD c6.1 hD 33 rfl) (nD c6.1 hD 34 rfl) (nD c6.1 hD 35 rfl) (nD c6.1 hD 36 rfl) (nD c6.1 hD 37 rfl) (nD c6.1 hD 38 rfl) (nD c6.1 hD 39 rfl) (nD c6.1 hD 40 rfl) (nR X G c6.2.1) c6.2.2 (nF X G hF E' 0 rfl b3) (nF X G hF E' 1 rfl b3) (nF X G hF E' 2 rfl b3) (nF X G hF E' 3 rfl b3) (nF X G hF E' 4 rfl b3) (nF X G hF E' 5 rfl b2) (nF X G hF E' 6 rfl b2) (nF X G hF E' 7 rfl b2) (nM hM E 0 rfl b1) (nM hM E 1 rfl b2) (nM hM E 2 rfl b3) (nM hM E 3 rfl b3) (nM hM E 4 rfl b1) (nM hM E 5 rfl b6) (nF X G hF E' 8 rfl b2) (nM hM E 6 rfl b1) (nM hM E 7 rfl b1) (nM hM E 8 rfl b2) (nM hM E 9 rfl b1) (nM hM E 10 rfl b2) (nM hM E 11 rfl b2) (nM hM E 12 rfl b2) (nM hM E 13 rfl b4) (nM hM E 14 rfl b2) (nM hM E 15 rfl b2) (nF X G hF E' 9 rfl b1) (nF X G hF E' 10 rfl b1) (nM hM E 16 rfl b1) (nM hM E 17 rfl b2) (nM hM E 18 rfl b3) (nM hM E 19 rfl b3) (nM hM E 20 rfl b1) (nM hM E 21 rfl b1) (nF X G hF E' 11 rfl b2) (nM hM E 22 rfl b4) (nF X G hF E' 12 rfl b2) (nM hM E 23 rfl b1) (nM hM E 24 rfl b2) (nM hM E 25 rfl b1) (nM hM E 26 rfl b2) (nM hM E 27 rfl b2) (nM hM E 28 rfl b1) (nM hM E 29 rfl b2) (nM hM E 30 rfl b2) (nM hM E 31 rfl b2) (nM hM E 32 rfl b3) (nM hM E 33 rfl b4) (nM hM E 34 rfl b2) (nM hM E 35 rfl b3) (nM hM E 36 rfl b3) (nM hM E 37 rfl b2) (nM hM E 38 rfl b1) (nM hM E 39 rfl b2) (nF X G hF E' 13 rfl b1) (nF X G hF E' 14 rfl b1) (nM hM E 40 rfl b1) (nM hM E 41 rfl b1) (nM hM E 42 rfl b2) (nM hM E 43 rfl b1) (nM hM E 44 rfl b2) (nM hM E 45 rfl b2) (nM hM E 46 rfl b3) (nM hM E 47 rfl b2) (nM hM E 48 rfl b4) (nM hM E 49 rfl b4) (nM hM E 50 rfl b1) (nM hM E 51 rfl b2) (nM hM E 52 rfl b2) (nM hM E 53 rfl b2) (nM hM E 54 rfl b1) (nM hM E 55 rfl b1) (nM hM E 56 rfl b2) (nM hM E 57 rfl b3) (nM hM E 58 rfl b1) (nM hM E 59 rfl b2) (nM hM E 60 rfl b2) (nM hM E 61 rfl b2) (nM hM E 62 rfl b3) (nM hM E 63 rfl b2) (nM hM E 64 rfl b1) (nM hM E 65 rfl b2) (nF X G hF E' 15 rfl b1) (eq_of_beq e2) e3 (eq_of_beq e4) e5 (nR X G e6) (show (4:Addr)≠builtinsNs by decide) (show (4:Addr)≠mainGlobals by decide) o3 o4 o5,rfl,rfl,rfl,Option.isNone_iff_eq_none.mp n1,Option.isNone_iff_eq_none.mp n2,Option.isNone_iff_eq_none.mp n3⟩
end Bk
namespace Bk
open PySem PySem.W PySem.Calls PyProof.Rows
noncomputable section
abbrev pw:=PySem.Challenge.pw_piecebook_s01_answers
def mkT (l:List Obj):Nat→Nat→Nat→BT
 | 0,_,_=>.nil
 | f+1,a,b=>match l[b]? with
  | some o=>.node o (mkT l f (2*a) (a+b)) (mkT l f (2*a) (2*a+b))
  | none=>.nil
def ev:Env:={ scope:=pw.main.scope,locals:=mainNs,globals:=mainNs,cells:=[],code:=.ref 13,frame:=some 14 }
def zp:Pos:={ line:=0,col:=0,endLine:=0,endCol:=0 }
def bd:Code:=.body (behindTheImports pw) ev
def s0 (w:World) (os:OsState):Shared:=⟨boot_heap w.params,⟨[]⟩,boot_drawn,boot_toks,os⟩
def go0 (w:World) (os:OsState):Option (Shared × Thread):=topGo treeTable pw w 11 (some (.ref 6)) 12 (s0 w os) (topStub pw)
def toT (s:Shared):SharedT:=⟨mkT s.heap.objs.toList s.heap.objs.size 1 0,s.heap.objs.size,s.heap.life,s.gens,s.drawn,s.toks,s.os⟩
def wh (w:World) (os:OsState):Option (Flow × SharedT × Code × Pos):=(go0 w os).bind fun x=>segRunT treeTable pw w 11 (some (.ref 6)) 1 6000 (toT x.1) (piecesOf (behindTheImports pw) ev bd zp [topFrame zp])
def fin (w:World) (os:OsState):Option (Shared × Code):=(wh w os).bind fun x=>match x.1 with
 | .next=>(topRun treeTable pw w 11 (some (.ref 6)) 2 x.2.1.abs ⟨doneF .next,bd,x.2.2.2,[topFrame zp]⟩).map fun s=>(s,x.2.2.1)
 | _=>none
def qv:Program:=view pw [84]
def lo:List PySem.Str:=pw.boundNames.filter fun x=>!(x == "answers")
def xq (s:Shared):Bool:=xlAt qv [] s && recOk [] s
def md:List PySem.Str:=importedModules pw.main.body
def oA (w:World) (os:OsState):Option Bool:=(fin w os).map fun x=>staticsOk md (boot_heap w.params) x.1.heap && namesBound pw x.1.heap && gensDone x.1 && laidKept (boot_heap w.params) x.1.heap
def oB (w:World) (os:OsState):=(fin w os).map fun x=>openSeen qv lo md xq true x.1
def gB:=some (openGood qv lo)
def oC (w:World) (os:OsState):Option Bool:=(fin w os).map fun x=>ck1 (kof x.1.heap)
def oE (w:World) (os:OsState):Option Bool:=(fin w os).map fun x=>ck2 (kof x.1.heap)
def oF (w:World) (os:OsState):Option Bool:=(fin w os).map fun x=>ck3 (kof x.1.heap)
abbrev DT:=List (Option FuncData) × List (Option FuncData) × Option Obj × Option Obj
def ob (s:Shared):DT:=(eL (kof s.heap) ML,eL (kof s.heap) FL,s.heap.get? 196,s.heap.get? 437)
def gb:DT:=(ML.map sp,FL.map sp,some (tabObj #[]),some (tabObj #[]))
def oD (w:World) (os:OsState):Option (DT × Code):=(fin w os).map fun x=>(ob x.1,x.2)
def gD:Option (DT × Code):=some (gb,bd)
def oP (w:World) (os:OsState):Option Thread:=(go0 w os).map fun x=>x.2
def gP:Option Thread:=some ⟨denote treeTable bd,bd,zp,[topFrame zp]⟩
end
theorem qA:(fun (_:World→OsState→Option Bool)=>true) oA=true:=by k_qdec
theorem qC:(fun (_:World→OsState→Option Bool)=>true) oC=true:=by k_qdec
theorem qE:(fun (_:World→OsState→Option Bool)=>true) oE=true:=by k_qdec
theorem qF:(fun (_:World→OsState→Option Bool)=>true) oF=true:=by k_qdec
theorem qB:(fun _ _=>true) oB gB=true:=by k_qdec
theorem qP:(fun _ _=>true) oP gP=true:=by k_qdec
theorem qD:(fun _ _=>true) oD gD=true:=by k_qdec
theorem rP (w:World) (os:OsState):oP w os=gP:=(congrFun (congrFun PySem.W.Fast.te3446948229818966561 w) os).trans (Eq.trans (by kernel_rfl) PySem.W.Fast.te1589263763718406701.symm)
theorem rZ (w:World):((boot_heap w.params).isNs mainGlobals && (⟨[]⟩:Array GenState).size == 0,(boot_heap w.params).objs.size,(boot_heap w.params).nsMap mainGlobals "__annotations__")=(true,11,some (.ref 6)):=by kernel_rfl
theorem rK (w:World) (s:Shared):segRun treeTable pw w 11 (some (.ref 6)) 1 1 s (blockOf (behindTheImports pw) ev bd zp [topFrame zp])=some (.next,s,bd,zp):=by kernel_rfl
theorem rO:opening pw=plainProg pw.main.scope.names:=by kernel_rfl
theorem rF (s:Shared):fenceModules? pw s=some s:=by kernel_rfl
theorem rA (w:World) (os:OsState):oA w os=some true:=(congrFun (congrFun PySem.W.Fast.te15896884357146812435 w) os).trans (by kernel_rfl)
theorem rB (w:World) (os:OsState):oB w os=gB:=(congrFun (congrFun PySem.W.Fast.te16541162313270507750 w) os).trans (Eq.trans (by kernel_rfl) PySem.W.Fast.te7717708506776163286.symm)
theorem rC (w:World) (os:OsState):oC w os=some true:=(congrFun (congrFun PySem.W.Fast.te6972687162588784731 w) os).trans (by kernel_rfl)
theorem rE (w:World) (os:OsState):oE w os=some true:=(congrFun (congrFun PySem.W.Fast.te12289421294918712483 w) os).trans (by kernel_rfl)
theorem rF' (w:World) (os:OsState):oF w os=some true:=(congrFun (congrFun PySem.W.Fast.te13226875265263992236 w) os).trans (by kernel_rfl)
theorem rD (w:World) (os:OsState):oD w os=gD:=(congrFun (congrFun PySem.W.Fast.te7338096520424309249 w) os).trans (Eq.trans (by kernel_rfl) PySem.W.Fast.te4133797046221785404.symm)
theorem mkT_get (l:List Obj):∀ (f a b i:Nat),i+1<2 ^ f→(mkT l f a b).get i=l[b+a * i]?
 | 0,a,b,i,h=>absurd h (by simp)
 | f+1,a,b,i,h=>by
  rw [Nat.pow_succ] at h
  unfold mkT
  cases hb:l[b]? with
  | none =>
   have hb':=List.getElem?_eq_none_iff.mp hb
   exact (List.getElem?_eq_none (Nat.le_trans hb' (Nat.le_add_right _ _))).symm
  | some o =>
   dsimp only
   rw [BT.get_node]
   by_cases h0:i=0
   ·subst h0;rw [if_pos rfl,Nat.mul_zero,Nat.add_zero,hb]
   ·rw [if_neg h0]
    by_cases h1:i % 2=1
    ·rw [if_pos h1,mkT_get l f _ _ _ (by omega)]
     congr 1
     have e:i=2 * (i / 2)+1:=by omega
     generalize i / 2=j at e
     subst e
     rw [Nat.mul_add,Nat.mul_one,Nat.mul_comm 2 a,Nat.mul_assoc];omega
    ·rw [if_neg h1,mkT_get l f _ _ _ (by omega)]
     congr 1
     have e:i=2 * (i / 2 - 1)+2:=by omega
     generalize i / 2 - 1=j at e
     subst e
     rw [Nat.mul_add,Nat.mul_comm 2 a,Nat.mul_assoc];omega
theorem lt_two (n i:Nat) (h:i<n):i+1<2 ^ n∨n=1:=by
 have:n<2 ^ n:=Nat.lt_two_pow_self
 omega
theorem mkT_list (l:List Obj) (n:Nat) (h:l.length=n):(mkT l n 1 0).list n=l:=by
 apply List.ext_getElem?
 intro i
 unfold BT.list
 rw [List.getElem?_map]
 by_cases hi:i<n
 ·rw [List.getElem?_range hi]
  have hl:l[i]?=some l[i]:=List.getElem?_eq_getElem (by omega)
  rcases lt_two n i hi with q | q
  ·show some (((mkT l n 1 0).get i).getD default)=_
   rw [mkT_get l n 1 0 i q,Nat.zero_add,Nat.one_mul,hl];rfl
  ·subst q
   obtain rfl:i=0:=by omega
   show some (((mkT l 1 1 0).get 0).getD default)=_
   unfold mkT
   rw [hl]
   rfl
 ·rw [List.getElem?_eq_none (by rw [List.length_range];omega),List.getElem?_eq_none (by omega)];rfl
theorem toT_abs (s:Shared):(toT s).abs=s:=by
 obtain ⟨⟨objs,life⟩,gens,drawn,toks,os⟩:=s
 show (⟨⟨((mkT objs.toList objs.size 1 0).list objs.size).toArray,life⟩,gens,drawn,toks,os⟩:Shared)=_
 rw [mkT_list objs.toList objs.size (by simp)]
theorem ran {w:World}{os:OsState}{r:Shared}{c:Code} (e:fin w os=some (r,c)) (hc:c=bd):topRun treeTable pw w 11 (some (.ref 6)) (12+(1+(6000+2))) (s0 w os) (topStub pw)=some r:=by
 subst hc
 unfold fin at e
 obtain ⟨⟨f,t,c,p⟩,e1,e2⟩:=Option.bind_eq_some_iff.mp e
 cases f with
 | next =>
  obtain ⟨r',e3,e4⟩:=Option.map_eq_some_iff.mp e2
  obtain ⟨rfl,rfl⟩:=Prod.mk.inj e4
  unfold wh at e1
  obtain ⟨⟨s,th⟩,e5,e6⟩:=Option.bind_eq_some_iff.mp e1
  have e7:=segRun_of e6
  rw [toT_abs] at e7
  have hp:=rP w os
  unfold oP at hp
  rw [e5] at hp
  obtain rfl:th=_:=Option.some.inj hp
  refine go_top e5 (piece_block (rK w s) ?_)
  have:=piece_app (rest:=[]) e7 (piece_nil e3)
  rw [List.append_nil] at this
  exact this
 | _=>cases e2
noncomputable def hk:Hook where
 α:=Bool × DT
 obs:=fun s=>(chk (kof s.heap),ob s)
 val:=fun _=>(true,gb)
 says:=fun _ h=>∃ K:Frag,K.In h∧chk K=true∧eL K ML=ML.map sp∧eL K FL=FL.map sp∧h.get? 196=some (tabObj #[])∧h.get? 437=some (tabObj #[])
 of:=fun _ s x=>⟨kof s.heap,kof_in _,congrArg (fun y=>y.1) x,congrArg (fun y=>y.2.1) x,congrArg (fun y=>y.2.2.1) x,congrArg (fun y=>y.2.2.2.1) x,congrArg (fun y=>y.2.2.2.2) x⟩
 keeps:=fun _ _ _ ⟨K,a,b,c,c',d,e⟩ k=>⟨K,a.keeps k,b,c,c',k _ _ d,k _ _ e⟩
theorem tf_of {tb:String→Option Builtin}{p:Program}{w:World}{N:Nat}{s r:Shared} (y1:(s.heap.isNs mainGlobals && s.gens.size == 0)=true)
  (hr:topRun tb p w s.heap.objs.size (s.heap.nsMap mainGlobals "__annotations__") N s (topStub p)=some r)
  (y4:(staticsOk (importedModules p.main.body) s.heap r.heap && namesBound p r.heap && gensDone r && laidKept s.heap r.heap)=true):topFrom tb p w N s=some r:=by
 unfold topFrom
 rw [y1]
 dsimp only
 rw [hr,Option.bind_some,y4]
theorem oe_of {tb:String→Option Builtin}{p:Program}{w:World}{N:Nat}{s r:Shared} (e:fencedOpening tb p w N=some s) (t:topFrom tb p w N s=some r):openEnds tb p w N=some r:=by
 unfold openEnds
 rw [e,Option.bind_some,t]
theorem tr_of {w:World}{os:OsState}{r:Shared}{n:Nat}{a:Option Value} (y2:(s0 w os).heap.objs.size=n) (y3:(s0 w os).heap.nsMap mainGlobals "__annotations__"=a) {N M:Nat} (hM:N=M)
  (hr:topRun treeTable pw w n a N (s0 w os) (topStub pw)=some r):topRun treeTable pw w (s0 w os).heap.objs.size ((s0 w os).heap.nsMap mainGlobals "__annotations__") M (s0 w os) (topStub pw)=some r:=by
 subst hM
 rw [y2,y3];exact hr
theorem mp_of {α β:Type}{x:Option α}{f:α→β}{y:α}{z:β} (h:x=some y) (e:Option.map f x=some z):f y=z:=by
 subst h;exact Option.some.inj e
theorem pm_of {α β:Type}{x:Option α}{f:α→β}{y:α}{z:β} (h:x=some y) (e:f y=z):Option.map f x=some z:=by
 subst h;exact congrArg some e
theorem left:LeftO pw qv lo xq (Hook.obs hk) (Hook.val hk) 7000:=fun w=>by
 obtain ⟨⟨h,gs,d,k,os⟩,e,e'⟩:=Option.map_eq_some_iff.mp (boot_open (N:=7000) rO rfl rF w)
 obtain ⟨q1,e'⟩:=Prod.mk.inj e'
 obtain ⟨q2,e'⟩:=Prod.mk.inj e'
 obtain ⟨q3,q4⟩:=Prod.mk.inj e'
 dsimp only at q1 q2 q3 q4
 subst q1 q2 q3 q4
 obtain ⟨⟨r,c⟩,hf,ha⟩:=Option.map_eq_some_iff.mp (rA w os)
 have hb:=mp_of (z:=openGood qv lo) hf (rB w os)
 have hc:=Bool.and_eq_true_iff.mpr ⟨mp_of (z:=true) hf (rC w os),Bool.and_eq_true_iff.mpr ⟨mp_of (z:=true) hf (rE w os),mp_of (z:=true) hf (rF' w os)⟩⟩
 have hd:=mp_of (z:=(gb,bd)) hf (rD w os)
 have hr:=topRun_mono 985 _ _ _ _ (ran hf (congrArg (fun y=>y.2) hd))
 obtain ⟨z1,z'⟩:=Prod.mk.inj (rZ w)
 obtain ⟨z2,z3⟩:=Prod.mk.inj z'
 exact pm_of (oe_of (s:=s0 w os) e (tf_of z1 (tr_of z2 z3 (by decide) hr) ha)) (Prod.ext hb (Prod.ext hc (congrArg (fun y=>y.1) hd)))
theorem hkY (w:World) (h:Heap):Hook.says hk w h→∃ K:Frag,K.In h∧(∀ p∈[(196:Addr),437],h.get? p=some (tabObj #[])) ∧
  ∀ (mg:Str→Option Value) (ob:Obj),h.Ns mainGlobals mg→ob.cls=.type "module"→ob.dict=some builtinsNs→ob.data=.plain →
   ∃ A,Txt K mg A∧A.t_Pieces_eldest=196∧A.t_Ways_most=437∧A.o_bm=ob∧K.lookup 196=none∧K.lookup 437=none∧K.lookup A.a_bm=none:=by
 rintro ⟨K,a,b,c,c',d,e⟩
 refine ⟨K,a,fun p hp=>?_,fun mg ob G b3 b4 b5=>tx_of b c c' a G b3 b4 b5⟩
 rcases List.mem_cons.mp hp with rfl | hp
 ·exact d
 ·rcases List.mem_cons.mp hp with rfl | hp
  ·exact e
  ·cases hp
end Bk
open PySem PySem.W PyProof.Rows
set_option maxRecDepth 100000 in
set_option maxHeartbeats 8000000 in
theorem PySem.Challenge.cw_piecebook_s01_answers_holds : PySem.Challenge.rw_piecebook_s01_answers.Holds := by
  refine holds_os (q := Bk.qv) (loose := Bk.lo) (Xt := Bk.xq) (XP := XL Bk.qv []) (YP := Hook.says Bk.hk) Bk.left (Hook.of Bk.hk) (Hook.keeps Bk.hk) (fun s e => xl_of s (Bool.and_eq_true_iff.mp e).1) XL.keeps (by rfl) (by rfl) (by rfl)
    (fun s e => recFacts_of (Bool.and_eq_true_iff.mp e).2) os_shapes (by decide +kernel) (by decide +kernel) ⟨rfl, rfl, rfl, rfl, rfl, by decide +kernel⟩ ⟨[.list []], by decide +kernel, by decide +kernel⟩ ?_
  exact Bk.walkT (m := 16000) (by decide) rfl Bk.hkY
