import PyProof.Rows.All
import Wide.All
import OpenK.AllK
import Wide.FinOn
import Lean
import PyProof.EqAt
import PyProof.EqKinds
import PyProof.TupleCall
import PyProof.Rows.SetFrom
import PyProof.ExcAttrAll.ValueError
import KE.KDictList
import KE.KRevIter
import KE.KPairComp
import PyProof.EqAt
import KE.KSortTup
import PyProof.DictValues
import PyProof.DictWalks
import KE.KDictList
import KE.KItemsList
import KE.KIsAll
import KE.KIntText
import KE.KRevSl
import PyProof.StrCalls2
import PyProof.CallStr
import PyProof.StrLawsTight
import PyProof.StrLawsChain
import KE.KLam
import KE.KMinKey
import KE.KNestM
import PySem.Challenge.RW_homeround_k60_whole_settled_ones
set_option Elab.async false
set_option linter.all false
set_option maxRecDepth 100000
set_option maxHeartbeats 4000000
namespace L2
open PySem PySem.Spec PyProof.Rows
noncomputable abbrev Key:=Sum Int Str
noncomputable def aDH:Key→Value→Bool
 | .inl k,v=>Value.isInt k v
 | .inr x,v=>Value.isStrOf x v
noncomputable def aFE (w:World):Key→Int
 | .inl k=>hashInt k
 | .inr x=>hashStr w x
theorem cA:∀ {k:Key} {v:Value},aDH k v=true→(∃ i t,k=Sum.inl i∧v=Value.int i t)∨(∃ x t,k=Sum.inr x∧v=Value.str x t)
 | .inl i,v,h=>by
  obtain ⟨t,e⟩:=Value.isInt_shape (k:=i) (v:=v) h
  exact .inl ⟨i,t,rfl,e⟩
 | .inr x,v,h=>by
  obtain ⟨t,e⟩:=Value.isStrOf_shape (x:=x) (v:=v) h
  exact .inr ⟨x,t,rfl,e⟩
theorem aCZ (a b:Int):decide ((Sum.inl a:Key)=Sum.inl b)=(a == b):=by
 by_cases e:a=b
 ·subst e;simp
 ·have h:¬ (Sum.inl a:Key)=Sum.inl b:=fun q=>e (Sum.inl.inj q)
  rw [decide_eq_false h]
  exact (beq_eq_false_iff_ne.mpr e).symm
theorem aDk (a b:Str):decide ((Sum.inr a:Key)=Sum.inr b)=decide (a=b):=by
 by_cases e:a=b
 ·subst e;simp
 ·have h:¬ (Sum.inr a:Key)=Sum.inr b:=fun q=>e (Sum.inr.inj q)
  rw [decide_eq_false h,decide_eq_false e]
theorem aDR (a:Int)(b:Str):decide ((Sum.inl a:Key)=Sum.inr b)=false:=decide_eq_false (fun q=>nomatch q)
theorem aEf (a:Str)(b:Int):decide ((Sum.inr a:Key)=Sum.inl b)=false:=decide_eq_false (fun q=>nomatch q)
noncomputable def sS (prog:Program) (w:World):PySem.KeyKind prog w Key where
 is:=aDH
 hash:=aFE w
 inj:=fun v a b ha hb=>by
  rcases cA ha with ⟨i,t,rfl,rfl⟩ | ⟨x,t,rfl,rfl⟩
  ·rcases cA hb with ⟨j,u,rfl,e⟩ | ⟨y,u,rfl,e⟩
   ·injection e with e1 _;rw [e1]
   ·exact nomatch e
  ·rcases cA hb with ⟨j,u,rfl,e⟩ | ⟨y,u,rfl,e⟩
   ·exact nomatch e
   ·injection e with e1 _;rw [e1]
 byValue:=fun k v h=>by
  rcases cA h with ⟨i,t,rfl,rfl⟩ | ⟨x,t,rfl,rfl⟩ <;> rfl
 pyHash:=fun hv h=>by
  rcases cA hv with ⟨i,t,rfl,rfl⟩ | ⟨x,t,rfl,rfl⟩
  ·exact wpAny_pyHash_int h
  ·exact wpAny_pyHash_str h
 eqBool:=fun hu hv h=>by
  rcases cA hu with ⟨i,t,rfl,rfl⟩ | ⟨x,t,rfl,rfl⟩
  ·rcases cA hv with ⟨j,u,rfl,rfl⟩ | ⟨y,u,rfl,rfl⟩
   ·rw [aCZ] at h;exact wpAny_eqBool_int h
   ·rw [aDR] at h;exact SeqAt.EqAt.int_str i t y u _ _ _ _ h
  ·rcases cA hv with ⟨j,u,rfl,rfl⟩ | ⟨y,u,rfl,rfl⟩
   ·rw [aEf] at h;exact SeqAt.EqAt.str_int x t j u _ _ _ _ h
   ·rw [aDk] at h;exact wpAny_eqBool_str h
 «strs»:=fun k x t v h=>by
  rcases cA h with ⟨i,u,rfl,e⟩ | ⟨y,u,rfl,e⟩
  ·exact nomatch e
  ·injection e with e1 _
   subst e1
   cases v <;> rfl
end L2
namespace L2
open PySem PySem.Spec PyProof.Rows
inductive V where
 | non | bl (b:Bool) | int (i:Int) | str (x:Str) | byt (b:Array UInt8) | flt (b:UInt64) | ref (a:Addr) | ty (n:String)
 deriving DecidableEq
noncomputable def RelV:V→Value→Prop
 | .non,u=>u=Value.none
 | .bl b,u=>u=Value.bool b
 | .int i,u=>∃ t,u=Value.int i t
 | .str x,u=>∃ t,u=Value.str x t
 | .byt b,u=>∃ t,u=Value.bytes b t
 | .flt b,u=>∃ t,u=Value.float b t
 | .ref a,u=>u=Value.ref a
 | .ty n,u=>u=Value.type n
noncomputable abbrev Vals:List V→List Value→Prop:=Paired RelV
theorem Vals.length {xs:List V}{us:List Value}(r:Vals xs us):xs.length=us.length:=Paired.length r
theorem Vals.get:∀ {xs:List V} {us:List Value} {i:Nat} {x:V},Vals xs us→xs[i]?=some x→∃ u,us[i]?=some u∧RelV x u
 | _,_,_,_, .nil,e=>by simp at e
 | _,_,0,_, .cons r _,e=>by simp at e;subst e;exact ⟨_,rfl,r⟩
 | _,_,i+1,x, .cons _ t,e=>by
  obtain ⟨u,h1,h2⟩:=Vals.get (i:=i) (x:=x) t (by simpa using e)
  exact ⟨u,by simpa using h1,h2⟩
theorem Vals.set {x:V}{u:Value}(r:RelV x u):∀ {xs:List V} {us:List Value} (i:Nat),Vals xs us→Vals (xs.set i x) (us.set i u)
 | _,_,_, .nil => .nil
 | _,_,0, .cons _ t => .cons r t
 | _,_,i+1, .cons q t => .cons q (Vals.set r i t)
theorem Vals.append:∀ {xs ys:List V} {us ws:List Value},Vals xs us→Vals ys ws→Vals (xs++ys) (us++ws)
 | _,_,_,_, .nil,s=>s
 | _,_,_,_, .cons r t,s => .cons r (Vals.append t s)
theorem Vals.take:∀ {xs:List V} {us:List Value} (n:Nat),Vals xs us→Vals (xs.take n) (us.take n)
 | _,_,0,_ => .nil
 | _,_,_+1, .nil => .nil
 | _,_,n+1, .cons r t => .cons r (Vals.take n t)
theorem Vals.drop:∀ {xs:List V} {us:List Value} (n:Nat),Vals xs us→Vals (xs.drop n) (us.drop n)
 | _,_,0,r=>r
 | _,_,_+1, .nil => .nil
 | _,_,n+1, .cons _ t=>Vals.drop n t
noncomputable def aFq:Option V→Option Value→Prop
 | some v,some u=>RelV v u
 | none,none=>True
 | _,_=>False
noncomputable def KV {κ:Type}:List (κ × V)→List (κ × Value)→Prop:=Paired fun (p:κ × V) (q:κ × Value)=>p.1=q.1∧RelV p.2 q.2
noncomputable def kV:Key→V
 | .inl i => .int i
 | .inr x => .str x
inductive HO where
 | lst (xs:List V)
 | tup (xs:List V)
 | dK (kvs:List (Key × V)) | dT (kvs:List (List Key × V))
 | set (S:Int→Bool) (n:Nat)
 | ins (C dx:Addr) (fs:List (Str × V))
 | own (x:Addr)
 | xd (fs:List (Str × V))
 | met (f x:Addr)
 | rng (lo hi:Int)
 | frz (o:Obj) (u:HO)
 | tbl (ps:Array Value)
 | ext (φ:Heap→Prop)
noncomputable abbrev Hp:=Addr→Option HO
noncomputable def upd (H:Hp) (a:Addr) (o:HO):Hp:=fun b=>if b=a then some o else H b
theorem aD {H:Hp}{a:Addr}{o:HO}:upd H a o a=some o:=by unfold upd;rw [if_pos rfl]
theorem aP {H:Hp}{a b:Addr}{o:HO}(h:b≠a):upd H a o b=H b:=by unfold upd;rw [if_neg h]
theorem ne_of {H:Hp}{a b:Addr}{o u:HO}(h:H a=some o)(h':H b=some u)(d:o≠u):a≠b:=by
 intro e;subst e;rw [h] at h';exact d (Option.some.inj h')
theorem aM {H:Hp}{a b:Addr}{o:HO}(h:H a=some o)(h':H b=none):a≠b:=by
 intro e;subst e;rw [h] at h';cases h'
noncomputable def TupN (h:Heap) (a:Addr) (items:Array Value):Prop:=∃ o,h.get? a=some o∧o.cls = .type "tuple"∧(∃ n,o.data = .seq items n)∧o.dict=none
theorem TupN.tup {h:Heap}{a:Addr}{items:Array Value}(p:TupN h a items):IsTup h a items:=let ⟨o,e,c,n,_⟩:=p;⟨o,e,c,n⟩
theorem TupN.bare {h:Heap}{a:Addr}{items:Array Value}(p:TupN h a items):∃ o,h.get? a=some o∧o.dict=none:=let ⟨o,e,_,_,d⟩:=p;⟨o,e,d⟩
theorem TupN.new (h:Heap)(items:Array Value):TupN (h.push { cls := .type "tuple",data := .seq items }) h.objs.size items:=⟨_,Heap.get?_push_size _ rfl,rfl,⟨_,rfl⟩,rfl⟩
section
variable (P:Program)(w:World)
noncomputable def ObjOk (H:Hp) (h:Heap) (a:Addr):HO→Prop
 | .lst xs=>xs.length≤sizeLine∧∃ (its:List Value) (n:Nat),Vals xs its∧h.get? a=some { cls := .type "list",data := .seq its.toArray n }
 | .tup xs=>xs.length≤sizeLine∧∃ its:List Value,Vals xs its∧TupN h a its.toArray
 | .dK kvs=>kvs.length≤sizeLine∧(a == sysModules)=false∧∃ vs,KV kvs vs∧h.DictOf (sS P w) a vs
 | .dT kvs=>kvs.length≤sizeLine∧(a == sysModules)=false∧∃ xs:List (List Key × Addr × Value),
   Paired (fun (p:List Key × V) (q:List Key × Addr × Value)=>p.1=q.1∧H q.2.1=some (.tup (p.1.map kV))∧RelV p.2 q.2.2) kvs xs ∧
   ∃ o es ep,h.get? a=some o∧o.ExactDict∧o.data = .dict es ep∧es.toList=xs.map (entryOfKey (tupleKind (sS P w)))∧(xs.map (·.1)).Nodup
 | .set S n=>h.SetOf (intKind P w) a S n
 | .ins C dx fs=>H dx=some (.own a)∧fs.length≤1000∧dx≠a∧h.get? a=some (PySem.W.instObj C dx) ∧
   ∃ mA,h.Ns1 dx mA∧(∀ f,aFq (fs.lookup f) (mA f))∧PySem.Within mA (fs.map (·.1))
 | .own _=>∃ o,h.get? a=some o
 | .xd fs=>∃ mA,h.Ns1 a mA∧∀ f,aFq (fs.lookup f) (mA f)
 | .rng lo hi=>∃ t u v,h.get? a=some { cls := .type "range",data := .fields #[.int lo t, .int hi u, .int 1 v] }
 | .frz o u=>h.get? a=some o∧ObjOk H h a u
 | .tbl ps=>h.get? a=some { cls := .none,data := .fields ps }
 | .met f x=>h.get? a=some (PySem.W.methodObj (.ref f) (.ref x))
 | .ext φ=>φ h∧(∃ o,h.get? a=some o)∧∀ h1 h2:Heap,φ h1→(∀ o,h1.get? a=some o→h2.get? a=some o)→φ h2
noncomputable def HOk (H:Hp) (h:Heap):Prop:=∀ a o,H a=some o→ObjOk P w H h a o
end
section
variable {P:Program}{w:World}{H H':Hp}{h h':Heap}{a:Addr}{o:HO}
theorem ObjOk.lt (x:ObjOk P w H h a o):a<h.objs.size:=by
 cases o with
 | lst xs=>obtain ⟨_,_,_,_,e⟩:=x;exact Heap.lt_size e
 | tup xs=>obtain ⟨_,_,_,p⟩:=x;exact p.tup.lt
 | dK kvs=>obtain ⟨_,_,_,_,o,_,_,e,_⟩:=x;exact Heap.lt_size e
 | dT kvs=>obtain ⟨_,_,_,_,o,_,_,e,_⟩:=x;exact Heap.lt_size e
 | set S n=>obtain ⟨o,_,_,_,e,_⟩:=x;exact Heap.lt_size e
 | ins C dx fs=>obtain ⟨_,_,_,e,_⟩:=x;exact Heap.lt_size e
 | own y=>obtain ⟨_,e⟩:=x;exact Heap.lt_size e
 | xd fs=>obtain ⟨_,⟨_,_,_,e,_⟩,_⟩:=x;exact Heap.lt_size e
 | rng lo hi=>obtain ⟨_,_,_,e⟩:=x;exact Heap.lt_size e
 | frz ob u=>obtain ⟨e,_⟩:=x;exact Heap.lt_size e
 | tbl ps=>exact Heap.lt_size (show h.get? a=some _ from x)
 | met f y=>exact Heap.lt_size (show h.get? a=some _ from x)
 | ext φ=>obtain ⟨_,⟨_,e⟩,_⟩:=x;exact Heap.lt_size e
theorem Paired.mapP {α β:Type}{F G:α→β→Prop}:∀ {l₁:List α} {l₂:List β},Paired F l₁ l₂→(∀ a b,F a b→G a b)→Paired G l₁ l₂
 | _,_, .nil,_ => .nil
 | _,_, .cons r t,f => .cons (f _ _ r) (Paired.mapP t f)
theorem ObjOk.stay (x:ObjOk P w H h a o)(k:∀ b u,(b=a∨H b=some (.own a))→h.get? b=some u→h'.get? b=some u)
  (ho:∀ b,H b=some (.own a)→H' b=some (.own a)) (ht:∀ b xs,H b=some (.tup xs)→H' b=some (.tup xs)):ObjOk P w H' h' a o:=by
 induction o with
 | lst xs=>obtain ⟨z,its,n,r,e⟩:=x;exact ⟨z,its,n,r,k _ _ (.inl rfl) e⟩
 | tup xs=>obtain ⟨z,its,r,ob,e,c⟩:=x;exact ⟨z,its,r,ob,k _ _ (.inl rfl) e,c⟩
 | dK kvs=>obtain ⟨z,y,vs,r,ob,es,ep,e,c⟩:=x;exact ⟨z,y,vs,r,ob,es,ep,k _ _ (.inl rfl) e,c⟩
 | dT kvs=>
  obtain ⟨z,y,xs,r,ob,es,ep,e,c⟩:=x
  exact ⟨z,y,xs,Paired.mapP r fun p q z=>⟨z.1,ht _ _ z.2.1,z.2.2⟩,ob,es,ep,k _ _ (.inl rfl) e,c⟩
 | set S n=>obtain ⟨ob,es,ep,t,e,c⟩:=x;exact ⟨ob,es,ep,t,k _ _ (.inl rfl) e,c⟩
 | ins C dx fs=>
  obtain ⟨d,z,ne,e,mA,⟨od,es,ep,e2,c⟩,r⟩:=x
  exact ⟨ho _ d,z,ne,k _ _ (.inl rfl) e,mA,⟨od,es,ep,k _ _ (.inr d) e2,c⟩,r⟩
 | own y=>obtain ⟨ob,e⟩:=x;exact ⟨ob,k _ _ (.inl rfl) e⟩
 | xd fs=>obtain ⟨mA,⟨od,es,ep,e,c⟩,r⟩:=x;exact ⟨mA,⟨od,es,ep,k _ _ (.inl rfl) e,c⟩,r⟩
 | rng lo hi=>obtain ⟨t,u,v,e⟩:=x;exact ⟨t,u,v,k _ _ (.inl rfl) e⟩
 | frz ob u ih=>obtain ⟨e,q⟩:=x;exact ⟨k _ _ (.inl rfl) e,ih q⟩
 | tbl ps=>
  have e:h.get? a=some { cls := .none,data := .fields ps }:=x
  show h'.get? a=some { cls := .none,data := .fields ps }
  exact k a _ (.inl rfl) e
 | met f y=>
  have e:h.get? a=some (PySem.W.methodObj (.ref f) (.ref y)):=x
  show h'.get? a=some (PySem.W.methodObj (.ref f) (.ref y))
  exact k a _ (.inl rfl) e
 | ext φ=>obtain ⟨p,⟨o,e⟩,st⟩:=x;exact ⟨st _ _ p fun o q=>k _ _ (.inl rfl) q,⟨o,k _ _ (.inl rfl) e⟩,st⟩
theorem HOk.lt (x:HOk P w H h)(e:H a=some o):a<h.objs.size:=(x a o e).lt
theorem HOk.fresh (x:HOk P w H h)(e:h.objs.size≤a):H a=none:=by
 cases q:H a with
 | none=>rfl
 | some u=>exact absurd (Nat.lt_of_lt_of_le (x.lt q) e) (Nat.lt_irrefl _)
theorem HOk.kept (x:HOk P w H h)(k:∀ b u,h.get? b=some u→h'.get? b=some u):HOk P w H h':=fun a o e=>
 (x a o e).stay (fun b u _ q=>k b u q) (fun _ q=>q) fun _ _ q=>q
theorem HOk.laid (x:HOk P w H h)(k:∀ b u,h.get? b=some u→h'.get? b=some u)(hp:h.objs.size≤a)(new:ObjOk P w (upd H a o) h' a o):HOk P w (upd H a o) h':=fun b u e=>by
 have hn:=x.fresh hp
 by_cases hb:b=a
 ·subst hb;rw [aD] at e;cases e;exact new
 ·rw [aP hb] at e
  exact (x b u e).stay (fun c v _ q=>k c v q) (fun c q=>by rw [aP (aM q hn)];exact q) fun c xs q=>by rw [aP (aM q hn)];exact q
end
noncomputable def Rd (H:Hp) (a:Addr) (u:HO):Prop:=H a=some u∨∃ o,H a=some (.frz o u)
theorem Rd.ok {P:Program}{w:World}{H:Hp}{h:Heap}{a:Addr}{u:HO}(r:Rd H a u)(x:HOk P w H h):ObjOk P w H h a u:=by
 rcases r with r | ⟨o,r⟩
 ·exact x a u r
 ·obtain ⟨_,q⟩:=x a _ r
  exact q
noncomputable def Mut:Option HO→Prop
 | some (.lst _)=>True
 | some (.dK _)=>True
 | some (.dT _)=>True
 | some (.set _ _)=>True
 | some (.ins _ _ _)=>True
 | some (.ext _)=>True
 | _=>False
section
variable {P:Program}{w:World}{H:Hp}{h h':Heap}{x e:Addr}{o':HO}
theorem HOk.write (ok:HOk P w H h)(mu:Mut (H x))(he:e=x∨H e=some (.own x))(k:∀ b u,b≠e→h.get? b=some u→h'.get? b=some u)(heo:∃ u,h'.get? e=some u)
  (new:ObjOk P w (upd H x o') h' x o'):HOk P w (upd H x o') h':=fun b u q=>by
 have nown:∀ c y,H c=some (.own y)→c≠x:=fun c y r z=>by subst z;rw [r] at mu;exact mu
 have ntup:∀ c xs,H c=some (.tup xs)→c≠x:=fun c xs r z=>by subst z;rw [r] at mu;exact mu
 by_cases hb:b=x
 ·subst hb;rw [aD] at q;cases q;exact new
 ·rw [aP hb] at q
  by_cases hbe:b=e
  ·have q':H b=some (.own x):=by
    rcases he with z | z
    ·exact absurd (hbe.trans z) hb
    ·rw [hbe];exact z
   rw [q] at q';cases q'
   obtain ⟨v,hv⟩:=heo
   exact ⟨v,by rw [hbe];exact hv⟩
  ·refine (ok b u q).stay (fun c v hc r=>k c v ?_ r) (fun c r=>by rw [aP (nown c b r)];exact r) fun c xs r=>by rw [aP (ntup c xs r)];exact r
   rcases hc with rfl | hc
   ·exact hbe
   ·rintro rfl
    rcases he with z | z
    ·exact nown c b hc z
    ·rw [hc] at z;cases z;exact hb rfl
end
structure Un (fs ex:List Addr)(H H':Hp)(h h':Heap):Prop where
 keep:∀ b o,h.get? b=some o→H b=none→b∉fs→b∉ex→h'.get? b=some o
 slot:∀ b o,h.get? b=some o→H b=none→b∈fs→b∉ex→∃ sl,h'.get? b=some { o with slots:=sl }
 free:∀ b o,h.get? b=some o→H b=none→b∉ex→H' b=none
 there:∀ b o,h.get? b=some o→b∉ex→∃ o',h'.get? b=some o'
 tups:∀ b xs,H b=some (.tup xs)→H' b=some (.tup xs)
 frzs:∀ b o u,H b=some (.frz o u)→H' b=some (.frz o u)
 tbls:∀ b ps,H b=some (.tbl ps)→∃ more,H' b=some (.tbl (ps++more))
section
variable {fs fs' ex ex':List Addr}{H H1 H2:Hp}{h h1 h2 h':Heap}{a x e:Addr}{o:HO}
theorem Un.any (u:Un fs ex H H1 h h1){b:Addr}{ob:Obj}(q:h.get? b=some ob)(n:H b=none)(hx:b∉ex):∃ sl,h1.get? b=some { ob with slots:=sl }:=by
 by_cases hb:b∈fs
 ·exact u.slot b ob q n hb hx
 ·exact ⟨ob.slots,u.keep b ob q n hb hx⟩
theorem Un.kept (k:∀ b u,h.get? b=some u→h'.get? b=some u):Un fs ex H H h h':=
 ⟨fun b ob q _ _ _=>k b ob q,fun b ob q _ _ _=>⟨ob.slots,k b ob q⟩,fun _ _ _ n _=>n,fun b ob q _=>⟨ob,k b ob q⟩,fun _ _ q=>q,fun _ _ _ q=>q,fun _ ps q=>⟨#[],by rw [q];simp⟩⟩
theorem Un.refl:Un fs ex H H h h:=Un.kept fun _ _ q=>q
theorem Un.laid (k:∀ b u,h.get? b=some u→h'.get? b=some u)(hp:h.objs.size≤a)(hn:H a=none):Un fs ex H (upd H a o) h h' where
 keep:=fun b u q _ _ _=>k b u q
 slot:=fun b u q _ _ _=>⟨u.slots,k b u q⟩
 free:=fun b u q n _=>by rw [aP (Nat.ne_of_lt (Nat.lt_of_lt_of_le (Heap.lt_size q) hp))];exact n
 there:=fun b u q _=>⟨u,k b u q⟩
 tups:=fun b xs q=>by rw [aP (aM q hn)];exact q
 frzs:=fun b u xs q=>by rw [aP (aM q hn)];exact q
 tbls:=fun b ps q=>⟨#[],by rw [aP (aM q hn),q];simp⟩
theorem Un.write (mu:Mut (H x))(he:e=x∨H e=some (.own x))(k:∀ b u,b≠e→h.get? b=some u→h'.get? b=some u)(heo:∃ u,h'.get? e=some u):Un fs ex H (upd H x o) h h':=by
 have hx:∀ b,H b=none→b≠x:=fun b n z=>by subst z;rw [n] at mu;exact mu
 have hb:∀ b,H b=none→b≠e:=fun b n z=>by
  subst z
  rcases he with r | r
  ·exact hx b n r
  ·rw [n] at r;cases r
 have hm:∀ b u,H b=some u→¬ Mut (some u)→b≠x:=fun b u q nm z=>by subst z;rw [q] at mu;exact nm mu
 refine ⟨fun b u q n _ _=>k b u (hb b n) q,fun b u q n _ _=>⟨u.slots,k b u (hb b n) q⟩,fun b u q n _=>by rw [aP (hx b n)];exact n,fun b u q _=>?_,
  fun b xs q=>by rw [aP (hm b _ q fun z=>z)];exact q,fun b u xs q=>by rw [aP (hm b _ q fun z=>z)];exact q,fun b ps q=>⟨#[],by rw [aP (hm b _ q fun z=>z),q];simp⟩⟩
 by_cases hbe:b=e
 ·subst hbe;exact heo
 ·exact ⟨u,k b u hbe q⟩
end
noncomputable def trk (h:Heap) (H:Hp):List Addr:=(List.range h.objs.size).filter fun a=>(H a).isSome
noncomputable def wN (h:Heap) (H:Hp):Heap:=PySem.W.hideAll h (trk h H)
theorem wU (h:Heap)(H:Hp):(wN h H).objs.size=h.objs.size:=PySem.W.hideAll_size _ _
theorem aAX {h:Heap}{H:Hp}{b:Addr}{o:Obj}(e:h.get? b=some o)(n:H b=none):(wN h H).get? b=some o:=
 PySem.W.hideAll_get _ e fun hm=>by
  have q:(H b).isSome=true:=(List.mem_filter.mp hm).2
  rw [n] at q;simp at q
theorem aCw {h:Heap}{H:Hp}{b:Addr}{o:Obj}(e:(wN h H).get? b=some o):h.get? b=some o∧H b=none:=by
 have e':h.get? b=some o:=PySem.W.of_hideAll (trk h H) e
 refine ⟨e',?_⟩
 cases q:H b with
 | none=>rfl
 | some x=>
  have hm:b∈trk h H:=List.mem_filter.mpr ⟨List.mem_range.mpr (Heap.lt_size e'),by simp [q]⟩
  have z:(wN h H).get? b=none:=PySem.W.hideAll_none (trk h H) hm
  rw [z] at e;cases e
noncomputable def aCF (g h:Heap) (L:Addr):List (Addr × Obj):=(List.range h.objs.size).filterMap fun a=>if a=L∨(g.get? a).isSome=true then none else (h.get? a).map fun o=>(a,o)
noncomputable def rest (g h:Heap) (L d:Addr):List (Addr × Obj):=(aCF g h L).filter fun p=>decide (p.1≠d)
end L2
namespace L2
open PySem PySem.Spec PyProof.Rows
structure Mod (K:PySem.W.Frag)(mg:Str→Option Value)(base:Heap):Prop where
 kin:K.In base
 glob:base.Ns mainGlobals mg
 blt:∃ mb,base.Ns builtinsNs mb∧∀ x:Str,x≠"__name__"→mb x=bootBuiltins x
 nolimit:base.NoLimit
structure Cx where
 prog:Program
 w:World
 K:PySem.W.Frag
 mg:Str→Option Value
 base:Heap
 A:Around
 N:List Str
 s₀:Shared
 H₀:Hp
 env:Env
 outer:List Env
 stack:List Env
 ex:List Addr
 fn:Str→Bool
 calm:Bool
 pn:List (Addr × Obj)
 xe:Value→Shared→Prop
noncomputable def frs (l:List Env):List Addr:=l.filterMap (·.frame)
noncomputable abbrev Cx.fs (X:Cx):List Addr:=frs X.outer
noncomputable def Vis (sc:Scope) (x:Str):Prop:=sc.names.lookup x=some .local∨sc.names.lookup x=some .cell∨sc.names.lookup x=some .free
noncomputable def Loc (sc:Scope) (x:Str):Prop:=sc.names.lookup x=some .local∨sc.names.lookup x=some .cell
noncomputable def aFO (env:Env) (h:Heap) (m:Str→Option Value) (x:Str) (u:Value):Prop:=
 (env.kindOf x=some .local∧m x=some u)∨((env.kindOf x=some .cell∨env.kindOf x=some .free)∧∃ c,env.cells.lookup x=some c∧h.IsCell c (some u))
structure Cx.Ok (X:Cx):Prop where
 mod:Mod X.K X.mg X.base
 kind:X.env.scope.kind = .function
 glob:X.env.globals=mainGlobals
 blt:X.env.builtins=builtinsNs
 above:X.s₀.heap.objs.size≤X.env.locals
 inj:∀ x y c,X.env.cells.lookup x=some c→X.env.cells.lookup y=some c→x=y
 has:∀ x,(X.env.kindOf x=some .cell∨X.env.kindOf x=some .free)→∃ c,X.env.cells.lookup x=some c
 cab:∀ x c,X.fn x=true→X.env.cells.lookup x=some c→X.s₀.heap.objs.size≤c
 hd:X.calm=true→X.A.handled=none
 frames:X.A.frames=some X.stack
 stk:X.stack=X.outer∨(X.stack=X.env :: X.outer∧X.env.frame=some X.env.locals)
 exf:∀ b∈X.ex,b≠X.env.locals∧∀ x c,X.env.cells.lookup x=some c→c≠b
 bs:∀ b o,X.base.get? b=some o→X.s₀.heap.get? b=some o∧X.H₀ b=none
 bsz:X.base.objs.size≤X.s₀.heap.objs.size
 noex:∀ b o,X.base.get? b=some o→b∉X.ex
 exfs:∀ b∈X.ex,b∉X.fs
 funs:X.s₀.heap.FunFrames X.base X.outer
 frf:∀ b∈X.fs,X.H₀ b=none
structure Inv (X:Cx)(pins:List (Addr × Obj))(σ:List (Option V))(H:Hp)(s:Shared):Prop where
 ok:X.Ok
 os:s.os=X.s₀.os
 bare:AllBare s.gens
 base:Un X.fs X.ex X.H₀ H X.s₀.heap s.heap
 loc:∃ m,s.heap.Ns X.env.locals m∧∀ (i:Nat) (x:Str) (v:V),X.N[i]?=some x→σ[i]?=some (some v)→Vis X.env.scope x→∃ u,RelV v u∧aFO X.env s.heap m x u
 cell:∀ x c,X.env.cells.lookup x=some c→∃ v,s.heap.IsCell c v
 free:H X.env.locals=none
 freeC:∀ x c,X.env.cells.lookup x=some c→H c=none
 pin:∀ p∈X.pn++pins,s.heap.get? p.1=some p.2∧H p.1=none∧p.1≠X.env.locals∧p.1∉X.fs∧∀ v,p.2.data ≠ .cell v
 hok:HOk X.prog X.w H s.heap
 len:σ.length=X.N.length
section
variable {X:Cx}{pins:List (Addr × Obj)}{σ:List (Option V)}{H H':Hp}{s:Shared}{h':Heap}
theorem Cx.Ok.nofr (ok:X.Ok){b:Addr}{o:Obj}(e:X.base.get? b=some o):b∉X.fs:=fun hb=>by
 have:=(ok.funs.mem hb).1
 rw [e] at this;cases this
theorem Inv.bs (I:Inv X pins σ H s):∀ b o,X.base.get? b=some o→s.heap.get? b=some o∧H b=none:=fun b o e=>
 ⟨I.base.keep b o (I.ok.bs b o e).1 (I.ok.bs b o e).2 (I.ok.nofr e) (I.ok.noex b o e),I.base.free b o (I.ok.bs b o e).1 (I.ok.bs b o e).2 (I.ok.noex b o e)⟩
theorem Inv.bk (I:Inv X pins σ H s):∀ b o,X.base.get? b=some o→s.heap.get? b=some o:=fun b o e=>(I.bs b o e).1
theorem Inv.mod (I:Inv X pins σ H s):Mod X.K X.mg X.base:=I.ok.mod
theorem Inv.kIn (I:Inv X pins σ H s):X.K.In s.heap:=I.ok.mod.kin.keeps I.bk
theorem Inv.lt (I:Inv X pins σ H s):X.env.locals<s.heap.objs.size:=let ⟨_,hn,_⟩:=I.loc;hn.lt
theorem Inv.sz (I:Inv X pins σ H s):X.s₀.heap.objs.size≤s.heap.objs.size:=Nat.le_trans I.ok.above (Nat.le_of_lt I.lt)
theorem Inv.nofs (I:Inv X pins σ H s){a:Addr}(h:s.heap.objs.size≤a):a∉X.fs:=fun hb=>by
 obtain ⟨_,o,ho,_⟩:=I.ok.funs.mem hb
 exact absurd (Nat.lt_of_lt_of_le (Heap.lt_size ho) (Nat.le_trans I.sz h)) (Nat.lt_irrefl _)
theorem Inv.cne (I:Inv X pins σ H s):∀ x c,X.env.cells.lookup x=some c→c≠X.env.locals:=fun x c e z=>by
 obtain ⟨v,o,ho,hd⟩:=I.cell x c e
 obtain ⟨m,⟨o',es,ep,ho',hd',_⟩,_⟩:=I.loc
 rw [z,ho'] at ho;cases ho;rw [hd'] at hd;cases hd
theorem Inv.funs (I:Inv X pins σ H s):s.heap.FunFrames X.base X.outer:=by
 have all:∀ (l:List Env),(∀ b∈frs l,b∈X.fs)→X.s₀.heap.FunFrames X.base l→s.heap.FunFrames X.base l:=by
  intro l
  induction l with
  | nil=>intro _ _;trivial
  | cons env r ih=>
   intro hs hl
   obtain ⟨hk,⟨L,o,hf,hn,ho,hd⟩,hr⟩:=hl
   have hL:L∈X.fs:=hs L (by unfold frs;rw [List.filterMap_cons,hf];exact List.mem_cons_self)
   obtain ⟨sl,e⟩:=I.base.slot L o ho (I.ok.frf L hL) hL fun z=>I.ok.exfs L z hL
   exact ⟨hk,⟨L,_,hf,hn,e,hd⟩,ih (fun b hb=>hs b (by unfold frs;rw [List.filterMap_cons,hf];exact List.mem_cons_of_mem _ hb)) hr⟩
 exact all X.outer (fun _ hb=>hb) I.ok.funs
theorem Inv.stack (I:Inv X pins σ H s):s.heap.FunFrames X.base X.stack:=by
 rcases I.ok.stk with e | ⟨e,hf⟩
 ·rw [e];exact I.funs
 ·rw [e]
  obtain ⟨m,hn,_⟩:=I.loc
  refine .cons (by rw [I.ok.kind];decide) hf hn ?_ I.funs
  exact Heap.get?_none_of_le (Nat.le_trans I.ok.bsz I.ok.above)
theorem Inv.stkSub (I:Inv X pins σ H s):∀ b∈frs X.stack,b∈X.env.locals :: X.fs:=fun b hb=>by
 rcases I.ok.stk with e | ⟨e,hf⟩
 ·rw [e] at hb;exact List.mem_cons_of_mem _ hb
 ·rw [e] at hb
  unfold frs at hb
  rw [List.filterMap_cons,hf] at hb
  exact hb
theorem Inv.stkFree (I:Inv X pins σ H s):∀ b∈frs X.stack,H b=none:=fun b hb=>by
 rcases List.mem_cons.mp (I.stkSub b hb) with e | hb
 ·rw [e];exact I.free
 ·obtain ⟨_,o,ho,_⟩:=I.ok.funs.mem hb
  exact I.base.free b o ho (I.ok.frf b hb) fun z=>I.ok.exfs b z hb
theorem Inv.step {g':Array GenState}{t':Nat}{d':Drawn}{ch:List Addr}(I:Inv X pins σ H s)
  (hch:∀ b∈ch,(b∈X.ex∨X.s₀.heap.objs.size≤b)∧b≠X.env.locals∧(∀ x c,X.env.cells.lookup x=some c→c≠b)∧∀ p∈X.pn++pins,p.1≠b)
  (keep:∀ b o,b≠X.env.locals→b∉X.fs→b∉ch→s.heap.get? b=some o→H b=none→h'.get? b=some o)
  (slot:∀ b o,b≠X.env.locals→b∈X.fs→b∉ch→s.heap.get? b=some o→H b=none→∃ sl,h'.get? b=some { o with slots:=sl }) (free:∀ b o,b∉ch→s.heap.get? b=some o→H b=none→H' b=none)
  (there:∀ b o,b∉ch→s.heap.get? b=some o→∃ o',h'.get? b=some o')
  (tups:∀ b xs,H b=some (.tup xs)→H' b=some (.tup xs)) (frzs:∀ b o u,H b=some (.frz o u)→H' b=some (.frz o u)) (tbls:∀ b ps,H b=some (.tbl ps)→∃ more,H' b=some (.tbl (ps++more)))
  (ns:∀ m,s.heap.Ns X.env.locals m→h'.Ns X.env.locals m) (hok:HOk X.prog X.w H' h') (hg:AllBare g') :
  Inv X pins σ H' { s with heap:=h',gens:=g',drawn:=d',toks:=t' }:=by
 have neL:∀ b o,X.s₀.heap.get? b=some o→b≠X.env.locals:=fun b o e=>Nat.ne_of_lt (Nat.lt_of_lt_of_le (Heap.lt_size e) I.ok.above)
 have neC:∀ b o,X.s₀.heap.get? b=some o→b∉X.ex→b∉ch:=fun b o e hx hb=>by
  rcases (hch b hb).1 with z | z
  ·exact hx z
  ·exact absurd (Nat.lt_of_lt_of_le (Heap.lt_size e) z) (Nat.lt_irrefl _)
 have cellK:∀ x c,X.env.cells.lookup x=some c→∀ v,s.heap.IsCell c v→h'.IsCell c v:=fun x c e v ⟨o,ho,hd⟩=>by
  have nch:c∉ch:=fun z=>(hch c z).2.2.1 x c e rfl
  by_cases hc:c∈X.fs
  ·obtain ⟨sl,q⟩:=slot c o (I.cne x c e) hc nch ho (I.freeC x c e)
   exact ⟨_,q,hd⟩
  ·exact ⟨o,keep c o (I.cne x c e) hc nch ho (I.freeC x c e),hd⟩
 refine ⟨I.ok,I.os,hg,⟨fun b o e n hb hx=>?_,fun b o e n hb hx=>?_,fun b o e n hx=>?_,fun b o e hx=>?_,fun b xs e=>tups b xs (I.base.tups b xs e),fun b o xs e=>frzs b o xs (I.base.frzs b o xs e),fun b ps e=>?_⟩,?_,fun x c e=>?_,?_,fun x c e=>?_,fun p hp=>?_,hok,I.len⟩
 ·exact keep b o (neL b o e) hb (neC b o e hx) (I.base.keep b o e n hb hx) (I.base.free b o e n hx)
 ·obtain ⟨sl,e1⟩:=I.base.slot b o e n hb hx
  obtain ⟨sl',e2⟩:=slot b _ (neL b o e) hb (neC b o e hx) e1 (I.base.free b o e n hx)
  exact ⟨sl',e2⟩
 ·obtain ⟨o',e1⟩:=I.base.there b o e hx
  exact free b o' (neC b o e hx) e1 (I.base.free b o e n hx)
 ·obtain ⟨o',e1⟩:=I.base.there b o e hx
  exact there b o' (neC b o e hx) e1
 ·obtain ⟨m1,e1⟩:=I.base.tbls b ps e
  obtain ⟨m2,e2⟩:=tbls b _ e1
  exact ⟨m1++m2,by rw [e2,Array.append_assoc]⟩
 ·obtain ⟨m,hn,hl⟩:=I.loc
  refine ⟨m,ns m hn,fun i x v e1 e2 e3=>?_⟩
  obtain ⟨u,r,l⟩:=hl i x v e1 e2 e3
  refine ⟨u,r,?_⟩
  rcases l with l | ⟨k,c,e,z⟩
  ·exact .inl l
  ·exact .inr ⟨k,c,e,cellK x c e _ z⟩
 ·obtain ⟨v,z⟩:=I.cell x c e
  exact ⟨v,cellK x c e v z⟩
 ·obtain ⟨m,⟨o,_,_,ho,_⟩,_⟩:=I.loc
  exact free _ o (fun z=>(hch _ z).2.1 rfl) ho I.free
 ·obtain ⟨v,o,ho,hd⟩:=I.cell x c e
  exact free c o (fun z=>(hch c z).2.2.1 x c e rfl) ho (I.freeC x c e)
 ·obtain ⟨e,n,ne,nf,d⟩:=I.pin p hp
  have nch:p.1∉ch:=fun z=>(hch p.1 z).2.2.2 p hp rfl
  exact ⟨keep p.1 p.2 ne nf nch e n,free p.1 p.2 nch e n,ne,nf,d⟩
theorem Inv.un {t':Nat}(I:Inv X pins σ H s)(u:Un X.fs [] H H' s.heap h')(hok:HOk X.prog X.w H' h'):Inv X pins σ H' { s with heap:=h',toks:=t' }:=by
 obtain ⟨m,⟨o,es,ep,ho,r⟩,_⟩:=id I.loc
 obtain ⟨sl,hL⟩:=u.any ho I.free (by simp)
 exact I.step (g':=s.gens) (d':=s.drawn) (ch:=[]) (fun _ z=>nomatch z) (fun b o _ hb _ e n=>u.keep b o e n hb (by simp)) (fun b o _ hb _ e n=>u.slot b o e n hb (by simp)) (fun b o _ e n=>u.free b o e n (by simp)) (fun b o _ e=>u.there b o e (by simp)) u.tups u.frzs u.tbls (fun m' hm=>by
  obtain ⟨o',es',ep',ho',r'⟩:=hm
  rw [ho] at ho';cases ho'
  exact ⟨_,es',ep',hL,r'⟩) hok I.bare
theorem Inv.call {g':Array GenState}{t':Nat}{d':Drawn}{ch:List Addr}(I:Inv X pins σ H s)(u:Un (frs X.stack) ch H H' s.heap h')(hok:HOk X.prog X.w H' h')(hg:AllBare g')
  (hch:∀ b∈ch,(b∈X.ex∨X.s₀.heap.objs.size≤b)∧b≠X.env.locals∧(∀ x c,X.env.cells.lookup x=some c→c≠b)∧∀ p∈X.pn++pins,p.1≠b) :
  Inv X pins σ H' { s with heap:=h',gens:=g',drawn:=d',toks:=t' }:=by
 obtain ⟨m,⟨o,es,ep,ho,r⟩,_⟩:=id I.loc
 obtain ⟨sl,hL⟩:=u.any ho I.free fun z=>(hch _ z).2.1 rfl
 exact I.step (ch:=ch) hch (fun b o hL hb hc e n=>u.keep b o e n (fun z=>(List.mem_cons.mp (I.stkSub b z)).elim hL hb) hc) (fun b o _ _ hc e n=>u.any e n hc) (fun b o hc e n=>u.free b o e n hc) (fun b o hc e=>u.there b o e hc) u.tups u.frzs u.tbls (fun m' hm=>by
  obtain ⟨o',es',ep',ho',r'⟩:=hm
  rw [ho] at ho';cases ho'
  exact ⟨_,es',ep',hL,r'⟩) hok hg
theorem Inv.turned {t':Nat}{it:Addr}(I:Inv X pins σ H s)(k:∀ b o,b≠it→s.heap.get? b=some o→h'.get? b=some o)(hn:H it=none)(hL:it≠X.env.locals)
  (h1:it∈X.ex∨X.s₀.heap.objs.size≤it) (h2:∀ x c,X.env.cells.lookup x=some c→c≠it) (h3:∀ p∈X.pn++pins,p.1≠it):Inv X pins σ H { s with heap:=h',toks:=t' }:=by
 have nit:∀ b u,H b=some u→b≠it:=fun b u e z=>by rw [z,hn] at e;cases e
 refine I.step (g':=s.gens) (d':=s.drawn) (ch:=[it]) (fun b hb=>?_) (fun b o _ _ hc e _=>k b o (fun z=>hc (by simp [z])) e) (fun b o _ _ hc e _=>⟨o.slots,k b o (fun z=>hc (by simp [z])) e⟩) (fun _ _ _ _ n=>n)
  (fun b o hc e=>⟨o,k b o (fun z=>hc (by simp [z])) e⟩) (fun _ _ e=>e) (fun _ _ _ e=>e) (fun b ps e=>⟨#[],by rw [e];simp⟩) (fun m hm=>?_) (fun b u e=>?_) I.bare
 ·have e:b=it:=by simpa using hb
  subst e
  exact ⟨h1,hL,h2,h3⟩
 ·obtain ⟨o,es,ep,ho,r⟩:=hm
  exact ⟨o,es,ep,k _ o (Ne.symm hL) ho,r⟩
 ·refine (I.hok b u e).stay (fun c v hc q=>k c v ?_ q) (fun _ q=>q) fun _ _ q=>q
  rcases hc with z | z
  ·rw [z];exact nit b u e
  ·exact nit c _ z
theorem Inv.tok (I:Inv X pins σ H s)(t:Nat):Inv X pins σ H { s with toks:=t }:=I.un (h':=s.heap) (t':=t) Un.refl I.hok
theorem Inv.kept {t':Nat}(I:Inv X pins σ H s)(k:∀ b u,s.heap.get? b=some u→h'.get? b=some u):Inv X pins σ H { s with heap:=h',toks:=t' }:=I.un (Un.kept k) (I.hok.kept k)
theorem Inv.laid {a:Addr}{o:HO}{t':Nat}(I:Inv X pins σ H s)(k:∀ b u,s.heap.get? b=some u→h'.get? b=some u)(hp:s.heap.objs.size≤a)(new:ObjOk X.prog X.w (upd H a o) h' a o) :
  Inv X pins σ (upd H a o) { s with heap:=h',toks:=t' }:=I.un (Un.laid k hp (I.hok.fresh hp)) (I.hok.laid k hp new)
theorem Inv.write {x e:Addr}{o:HO}{t':Nat}(I:Inv X pins σ H s)(mu:Mut (H x))(he:e=x∨H e=some (.own x))(k:∀ b u,b≠e→s.heap.get? b=some u→h'.get? b=some u)(heo:∃ u,h'.get? e=some u)
  (new:ObjOk X.prog X.w (upd H x o) h' x o):Inv X pins σ (upd H x o) { s with heap:=h',toks:=t' }:=I.un (Un.write mu he k heo) (I.hok.write mu he k heo new)
theorem Inv.pins_of {pins':List (Addr × Obj)}(I:Inv X pins σ H s)(h:∀ p∈pins',s.heap.get? p.1=some p.2∧H p.1=none∧p.1≠X.env.locals∧p.1∉X.fs∧∀ v,p.2.data ≠ .cell v):Inv X pins' σ H s:=
 ⟨I.ok,I.os,I.bare,I.base,I.loc,I.cell,I.free,I.freeC,fun p hp=>(List.mem_append.mp hp).elim (fun z=>I.pin p (List.mem_append_left _ z)) (h p),I.hok,I.len⟩
theorem tO {N:List Str}(hN:N.Nodup){i j:Nat}{x:Str}(a:N[i]?=some x)(b:N[j]?=some x):i=j:=by
 obtain ⟨h1,e1⟩:=List.getElem?_eq_some_iff.mp a
 obtain ⟨h2,e2⟩:=List.getElem?_eq_some_iff.mp b
 exact (List.getElem_inj hN).mp (e1.trans e2.symm)
theorem qS {M:Model}{A:Around}{E:Value→Shared→Prop}{i:Nat}{x:Str}{v:V}{u:Value}{Q:Unit→Shared→Prop}(I:Inv X pins σ H s)(hN:X.N.Nodup)(hi:X.N[i]?=some x)(hx:Loc X.env.scope x)(r:RelV v u)
  (h:∀ s',Inv X pins (σ.set i (some v)) H s'→(∃ a,Heap.SameBut a s.heap s'.heap∧(a=X.env.locals∨X.env.cells.lookup x=some a))→Q () s') (hf:X.fn x=true∨X.env.scope.names.lookup x=some .local:=by first | exact .inl rfl | exact .inr rfl | assumption):wpAny M A (storeName X.env x u) Q E s:=by
 obtain ⟨m,hn,hl⟩:=id I.loc
 have hcls:(X.env.scope.kind == .class || (X.env.scope.kind == .module && X.env.locals != X.env.globals))=false:=by rw [I.ok.kind];rfl
 have hiσ:i<σ.length:=by rw [I.len];exact (List.getElem?_eq_some_iff.mp hi).1
 have cne:=I.cne
 have tracked:∀ {a:Addr} {h':Heap},(∃ o,s.heap.get? a=some o∧H a=none)→Heap.SameBut a s.heap h'→HOk X.prog X.w H h':=fun {a h'} ha hs b ob e=>by
  obtain ⟨_,_,hfree⟩:=ha
  refine (I.hok b ob e).stay (fun c w' hc q=>(hs.2 c ?_).trans q) (fun _ q=>q) fun _ _ q=>q
  rintro rfl
  rcases hc with rfl | hc
  ·rw [hfree] at e;cases e
  ·rw [hfree] at hc;cases hc
 rcases hx with hk | hk
 ·refine wpAny_storeName_local hk hn (fun h' hn' hs=>?_) hcls
  obtain ⟨oL,_,_,hoL,_⟩:=id hn
  refine h _ ⟨I.ok,I.os,I.bare,⟨fun b o e n hb hx=>?_,fun b o e n hb hx=>?_,I.base.free,fun b o e hx=>?_,I.base.tups,I.base.frzs,I.base.tbls⟩,⟨_,hn',fun j y v' e1 e2 e3=>?_⟩,fun y c e=>?_,I.free,I.freeC,fun p hp=>?_,tracked ⟨oL,hoL,I.free⟩ hs,by simpa using I.len⟩ ⟨_,hs, .inl rfl⟩
  ·exact (hs.2 b (Nat.ne_of_lt (Nat.lt_of_lt_of_le (Heap.lt_size e) I.ok.above))).trans (I.base.keep b o e n hb hx)
  ·obtain ⟨sl,e1⟩:=I.base.slot b o e n hb hx
   exact ⟨sl,(hs.2 b (Nat.ne_of_lt (Nat.lt_of_lt_of_le (Heap.lt_size e) I.ok.above))).trans e1⟩
  ·obtain ⟨o',e1⟩:=I.base.there b o e hx
   exact ⟨o',(hs.2 b (Nat.ne_of_lt (Nat.lt_of_lt_of_le (Heap.lt_size e) I.ok.above))).trans e1⟩
  ·by_cases hj:j=i
   ·subst hj
    rw [hi] at e1;cases e1
    rw [List.getElem?_set_self hiσ] at e2
    cases e2
    exact ⟨u,r, .inl ⟨hk,by simp⟩⟩
   ·rw [List.getElem?_set_ne (Ne.symm hj)] at e2
    obtain ⟨u',r',q⟩:=hl j y v' e1 e2 e3
    refine ⟨u',r',?_⟩
    rcases q with ⟨k,e⟩ | ⟨k,c,e,z⟩
    ·refine .inl ⟨k,?_⟩
     have:y≠x:=fun e=>hj (tO hN e1 (e ▸ hi))
     simp [this,e]
    ·exact .inr ⟨k,c,e,z.sameBut hs (cne y c e)⟩
  ·obtain ⟨w',z⟩:=I.cell y c e
   exact ⟨w',z.sameBut hs (cne y c e)⟩
  ·obtain ⟨e,n,ne,nf,d⟩:=I.pin p hp
   exact ⟨(hs.2 p.1 ne).trans e,n,ne,nf,d⟩
 ·have hfn:X.fn x=true:=by
   rcases hf with z | z
   ·exact z
   ·rw [z] at hk;cases hk
  obtain ⟨c,hc⟩:=I.ok.has x (.inl hk)
  obtain ⟨w',z⟩:=I.cell x c hc
  refine wpAny_storeName_cell I.ok.kind hk hc z (fun h' hc' hs=>?_)
  obtain ⟨oc,hoc,hocd⟩:=id z
  refine h { s with heap:=h' } ⟨I.ok,I.os,I.bare,⟨fun b o e n hb hx=>?_,fun b o e n hb hx=>?_,I.base.free,fun b o e hx=>?_,I.base.tups,I.base.frzs,I.base.tbls⟩,⟨m,hn.sameBut hs (Ne.symm (cne x c hc)),fun j y v' e1 e2 e3=>?_⟩,fun y c' e=>?_,I.free,I.freeC,fun p hp=>?_,tracked ⟨oc,hoc,I.freeC x c hc⟩ hs,by simpa using I.len⟩ ⟨c,hs, .inr hc⟩
  ·exact (hs.2 b (Nat.ne_of_lt (Nat.lt_of_lt_of_le (Heap.lt_size e) (I.ok.cab x c hfn hc)))).trans (I.base.keep b o e n hb hx)
  ·obtain ⟨sl,e1⟩:=I.base.slot b o e n hb hx
   exact ⟨sl,(hs.2 b (Nat.ne_of_lt (Nat.lt_of_lt_of_le (Heap.lt_size e) (I.ok.cab x c hfn hc)))).trans e1⟩
  ·obtain ⟨o',e1⟩:=I.base.there b o e hx
   exact ⟨o',(hs.2 b (Nat.ne_of_lt (Nat.lt_of_lt_of_le (Heap.lt_size e) (I.ok.cab x c hfn hc)))).trans e1⟩
  ·by_cases hj:j=i
   ·subst hj
    rw [hi] at e1;cases e1
    rw [List.getElem?_set_self hiσ] at e2
    cases e2
    exact ⟨u,r, .inr ⟨.inl hk,c,hc,hc'⟩⟩
   ·rw [List.getElem?_set_ne (Ne.symm hj)] at e2
    obtain ⟨u',r',q⟩:=hl j y v' e1 e2 e3
    refine ⟨u',r',?_⟩
    rcases q with q | ⟨k,c',e,z'⟩
    ·exact .inl q
    ·refine .inr ⟨k,c',e,z'.sameBut hs ?_⟩
     rintro rfl
     exact hj (tO hN e1 (I.ok.inj _ _ _ e hc ▸ hi))
  ·by_cases hcc:c'=c
   ·subst hcc;exact ⟨_,hc'⟩
   ·obtain ⟨w2,z2⟩:=I.cell y c' e
    exact ⟨w2,z2.sameBut hs hcc⟩
  ·obtain ⟨e,n,ne,nf,d⟩:=I.pin p hp
   refine ⟨(hs.2 p.1 ?_).trans e,n,ne,nf,d⟩
   intro q
   rw [q,hoc] at e
   have q':oc=p.2:=Option.some.inj e
   exact d w' (by rw [← q'];exact hocd)
theorem uP {M:Model}{A:Around}{E:Value→Shared→Prop}{i:Nat}{x:Str}{v:V}{u:Value}{Q:Unit→Shared→Prop}(I:Inv X pins σ H s)(hN:X.N.Nodup)(hi:X.N[i]?=some x)(hx:Loc X.env.scope x)(r:RelV v u)
  (h:∀ s',Inv X pins (σ.set i (some v)) H s'→Q () s') (hf:X.fn x=true∨X.env.scope.names.lookup x=some .local:=by first | exact .inl rfl | exact .inr rfl | assumption):wpAny M A (storeName X.env x u) Q E s:=
 qS I hN hi hx r (fun s' I' _=>h s' I') hf
theorem Inv.call' {s':Shared}{ch:List Addr}(I:Inv X pins σ H s)(ho:s'.os=s.os)(u:Un (frs X.stack) ch H H' s.heap s'.heap)(hok:HOk X.prog X.w H' s'.heap)(hg:AllBare s'.gens)
  (hch:∀ b∈ch,(b∈X.ex∨X.s₀.heap.objs.size≤b)∧b≠X.env.locals∧(∀ x c,X.env.cells.lookup x=some c→c≠b)∧∀ p∈X.pn++pins,p.1≠b):Inv X pins σ H' s':=by
 obtain ⟨h',g',d',t',o'⟩:=s'
 have e:o'=s.os:=ho
 subst e
 exact I.call (g':=g') (t':=t') (d':=d') u hok hg hch
end
noncomputable abbrev XK:=Value→Option Addr→Hp→Prop
noncomputable abbrev St:=List (Option V)
noncomputable abbrev VK:=V→Hp→Prop
noncomputable abbrev TE:=St→Hp→VK→Prop
noncomputable abbrev TT:=St→Hp→(Bool→Hp→Prop)→Prop
noncomputable abbrev TA:=St→Hp→(List V→Hp→Prop)→Prop
structure iE where
 nx:St→Hp→Prop
 rt:VK
 bk:St→Hp→Prop:=fun _ _=>False
 ct:St→Hp→Prop:=fun _ _=>False
noncomputable abbrev TS:=iE→St→Hp→Prop
noncomputable def EP (X:Cx) (pins:List (Addr × Obj)) (σ:St) (Q:VK) (u:Value) (s':Shared):Prop:=∃ v H',Inv X pins σ H' s'∧RelV v u∧Q v H'
noncomputable def TP (X:Cx) (pins:List (Addr × Obj)) (σ:St) (Q:Bool→Hp→Prop) (b:Bool) (s':Shared):Prop:=∃ H',Inv X pins σ H' s'∧Q b H'
noncomputable def AP (X:Cx) (pins:List (Addr × Obj)) (σ:St) (Q:List V→Hp→Prop) (us:List Value) (s':Shared):Prop:=∃ vs H',Inv X pins σ H' s'∧Vals vs us∧Q vs H'
noncomputable def SP (X:Cx) (pins:List (Addr × Obj)) (D:iE) (f:Flow) (s':Shared):Prop:=
 match f with
 | .next=>∃ σ' H',Inv X pins σ' H' s'∧D.nx σ' H'
 | .brk=>∃ σ' H',Inv X pins σ' H' s'∧D.bk σ' H'
 | .cont=>∃ σ' H',Inv X pins σ' H' s'∧D.ct σ' H'
 | .ret u=>∃ v σ' H',Inv X pins σ' H' s'∧RelV v u∧D.rt v H'
noncomputable def PE (X:Cx) (e:Expr) (t:TE):Prop:=
 ∀ (pins:List (Addr × Obj)) (s:Shared) (σ:St) (H:Hp) (Q:VK),Inv X pins σ H s→t σ H Q→wpAny (model X.prog X.w) X.A (eval e X.env) (EP X pins σ Q) X.xe s
noncomputable def PT (X:Cx) (e:Expr) (t:TT):Prop:=
 ∀ (pins:List (Addr × Obj)) (s:Shared) (σ:St) (H:Hp) (Q:Bool→Hp→Prop),Inv X pins σ H s→t σ H Q→wpAny (model X.prog X.w) X.A (isTrue e X.env (eval e X.env)) (TP X pins σ Q) X.xe s
noncomputable def PW (X:Cx) (e:Expr) (t:TT):Prop:=
 ∀ (whole:Sem Value) (pins:List (Addr × Obj)) (s:Shared) (σ:St) (H:Hp) (Q:Bool→Hp→Prop),Inv X pins σ H s→t σ H Q→wpAny (model X.prog X.w) X.A (isTrue e X.env whole) (TP X pins σ Q) X.xe s
theorem PW.pt {X:Cx}{e:Expr}{t:TT}(h:PW X e t):PT X e t:=h _
noncomputable def PA (X:Cx) (es:List Expr) (t:TA):Prop:=
 ∀ (pos:Pos) (pins:List (Addr × Obj)) (s:Shared) (σ:St) (H:Hp) (Q:List V→Hp→Prop),Inv X pins σ H s→t σ H Q→wpAny (model X.prog X.w) X.A (spliced (backTo pos (starEach es X.env))) (AP X pins σ Q) X.xe s
noncomputable def PS (X:Cx) (st:Stmt) (t:TS):Prop:=
 ∀ (pins:List (Addr × Obj)) (s:Shared) (σ:St) (H:Hp) (D:iE),Inv X pins σ H s→t D σ H→wpAny (model X.prog X.w) X.A (exec st X.env) (SP X pins D) X.xe s
noncomputable def PSs (X:Cx) (st:List Stmt) (t:TS):Prop:=
 ∀ (pins:List (Addr × Obj)) (s:Shared) (σ:St) (H:Hp) (D:iE),Inv X pins σ H s→t D σ H→wpAny (model X.prog X.w) X.A (execs st X.env) (SP X pins D) X.xe s
theorem thn {α:Type}{t:Sem α}{Q Q':α→Shared→Prop}{M:Model}{A:Around}{E:Value→Shared→Prop}{s:Shared}(h:wpAny M A t Q E s)(hQ:∀ a s,Q a s→Q' a s):wpAny M A t Q' E s:=wpAny_mono h hQ fun _ _ x=>x
end L2
namespace L2
open PySem PySem.Spec PyProof.Rows
section
variable {X:Cx}
inductive aDU (i:Nat) (σ:St) (H:Hp) (Q:VK):Prop
 | mk (v:V) (h:σ[i]?=some (some v)) (q:Q v H):aDU i σ H Q
noncomputable def aF (i:Nat):TE:=fun σ H Q=>aDU i σ H Q
noncomputable def tC (v:V):TE:=fun _ H Q=>Q v H
theorem aDi {i:Nat}{x:Str}{pos:Pos}(hN:X.N[i]?=some x)(hv:Vis X.env.scope x)(hd:(x == ("__debug__" : Str))=false:=by decide)(hcd:(x == ("__classdict__" : Str))=false:=by decide):PE X (.Name x pos) (aF i):=by
 intro pins s σ H Q I h
 obtain ⟨v,e,h⟩:=h
 obtain ⟨m,hn,hl⟩:=I.loc
 obtain ⟨u,r,l⟩:=hl i x v hN e hv
 have fin:EP X pins σ Q u s:=⟨v,H,I,r,h⟩
 rcases l with ⟨hk,hm⟩ | ⟨hk,c,hc,hcell⟩
 ·exact wpAny_Name (wpAny_loadName_local I.ok.kind hk hn hm fin) hd
 ·rcases hk with hk | hk
  ·exact wpAny_Name (wpAny_loadName_cell I.ok.kind hk hc hcell fin) hd
  ·exact wpAny_Name (wpAny_loadName_free I.ok.kind hk hc hcell fin hcd) hd
theorem aK {i j pos}:PE X (.Constant (.int i) j pos) (tC (.int i)):=fun _ _ _ H _ I h=>wpAny_Constant_int ⟨.int i,H,I.tok _,⟨_,rfl⟩,h⟩
theorem kW {b j pos}:PE X (.Constant (.bool b) j pos) (tC (.bl b)):=fun _ _ _ H _ I h=>Constant_bool ⟨.bl b,H,I,rfl,h⟩
noncomputable def Gl (X:Cx) (x:Str):Prop:=X.env.kindOf x=some .globalImplicit
theorem wH {E:Value→Shared→Prop}{pins:List (Addr × Obj)}{s:Shared}{σ:St}{H:Hp}{x:Str}{u:Value}{pos:Pos}{Q:Value→Shared→Prop}(I:Inv X pins σ H s)(hg:Gl X x)(hm:X.mg x=some u)(h:Q u s)
  (hd:(x == ("__debug__" : Str))=false:=by decide):wpAny (model X.prog X.w) X.A (eval (.Name x pos) X.env) Q E s:=
 Calls.Name_function_global I.ok.kind hg (Calls.loadGlobal_global (by rw [I.ok.glob];exact I.mod.glob.keeps I.bk) hm h) hd
theorem kJ {E:Value→Shared→Prop}{pins:List (Addr × Obj)}{s:Shared}{σ:St}{H:Hp}{x:Str}{u:Value}{pos:Pos}{Q:Value→Shared→Prop}(I:Inv X pins σ H s)(hg:Gl X x)(hm:X.mg x=none)(hv:bootBuiltins x=some u)(h:Q u s)
  (hn:x≠"__name__":=by decide) (hd:(x == ("__debug__" : Str))=false:=by decide):wpAny (model X.prog X.w) X.A (eval (.Name x pos) X.env) Q E s:=by
 obtain ⟨mb,h1,h2⟩:=I.mod.blt
 exact Calls.Name_function_global I.ok.kind hg (Calls.loadGlobal_builtin (by rw [I.ok.glob];exact I.mod.glob.keeps I.bk) hm (by rw [I.ok.blt];exact h1.keeps I.bk) ((h2 x hn).trans hv) h) hd
theorem wL {x:Str}{v:V}{u:Value}{pos:Pos}(hg:Gl X x)(hm:X.mg x=some u)(r:RelV v u)(hd:(x == ("__debug__" : Str))=false:=by decide):PE X (.Name x pos) (tC v):=
 fun _ _ _ H _ I h=>wH I hg hm ⟨v,H,I,r,h⟩ hd
theorem rS {x:Str}{v:V}{u:Value}{pos:Pos}(hg:Gl X x)(hm:X.mg x=none)(hv:bootBuiltins x=some u)(r:RelV v u)(hn:x≠"__name__":=by decide)(hd:(x == ("__debug__" : Str))=false:=by decide):PE X (.Name x pos) (tC v):=
 fun _ _ _ H _ I h=>kJ I hg hm hv ⟨v,H,I,r,h⟩ hn hd
variable {a b:Expr}{ta tb:TE}{pos:Pos}
noncomputable def tB (t:TE):TT:=fun σ H Q=>t σ H fun x H1=>∃ c,x = .bl c∧Q c H1
theorem zL {e:Expr}{t:TE}(h:PE X e t)(he:∀ whole,isTrue e X.env whole=(do let v ← whole;standAt e.pos;holding [v] (truthy v)):=by intro _;rfl):PT X e (tB t):=by
 intro pins s σ H Q I hw
 refine isTrue_plain (thn (h pins s σ H _ I hw) fun v s1 ⟨x,H1,I1,r1,q1⟩=>?_) (he _)
 obtain ⟨d,rfl,q⟩:=q1
 cases r1
 exact wpAny_truthy_bool ⟨H1,I1,q⟩
variable {tA tB':TT}{rest:List Expr}
noncomputable def tOr (t u:TT):TT:=fun σ H Q=>t σ H fun c H1=>if c=true then Q true H1 else u σ H1 Q
noncomputable def zN (t:TT):TT:=fun σ H Q=>t σ H fun c H1=>Q (!c) H1
theorem zI (ha:PT X a tA):PW X (.BoolOp .Or [a] pos) tA:=by
 intro wh pins s σ H Q I h
 refine isTrue_or (thn (ha pins s σ H Q I h) fun c s1 e=>?_)
 cases c with
 | false=>exact isTrue_or_nil e
 | true=>exact e
theorem aCH (ha:PT X a tA)(hb:PW X (.BoolOp .Or (b :: rest) pos) tB'):PW X (.BoolOp .Or (a :: b :: rest) pos) (tOr tA tB'):=by
 intro wh pins s σ H Q I h
 refine isTrue_or (thn (ha pins s σ H _ I h) fun c s1 ⟨H1,I1,q1⟩=>?_)
 cases c with
 | true=>exact ⟨H1,I1,q1⟩
 | false=>exact hb wh pins s1 σ H1 Q I1 q1
theorem tU (ha:PT X a tA):PT X (.UnaryOp .Not a pos) (zN tA):=by
 intro pins s σ H Q I h
 exact isTrue_not (ha pins s σ H (fun c H1=>Q (!c) H1) I h)
noncomputable def vR (ta tb:TE):TE:=fun σ H Q=>ta σ H fun x H1=>∃ c,x = .bl c∧if c=true then tb σ H1 Q else Q (.bl false) H1
noncomputable def aCM (ta tb:TE):TE:=fun σ H Q=>ta σ H fun x H1=>∃ c,x = .bl c∧if c=true then Q (.bl true) H1 else tb σ H1 Q
noncomputable def aCe (ta:TE):TE:=fun σ H Q=>ta σ H fun x H1=>∃ c,x = .bl c∧Q (.bl (!c)) H1
theorem kL {op}{t:TE}(h:PE X a t):PE X (.BoolOp op [a] pos) t:=fun pins s σ H Q I hw=>BoolOp_one (h pins s σ H Q I hw)
theorem rH (ha:PE X a ta)(hb:PE X (.BoolOp .And (b :: rest) pos) tb):PE X (.BoolOp .And (a :: b :: rest) pos) (vR ta tb):=by
 intro pins s σ H Q I h
 refine BoolOp_and (thn (ha pins s σ H _ I h) fun v s1 ⟨x,H1,I1,r1,q1⟩=>?_)
 obtain ⟨c,rfl,q1⟩:=q1
 cases r1
 refine wpAny_truthy_bool ?_
 cases c with
 | true=>exact hb pins s1 σ H1 Q I1 q1
 | false=>exact ⟨.bl false,H1,I1,rfl,q1⟩
theorem aEg (ha:PE X a ta)(hb:PE X (.BoolOp .Or (b :: rest) pos) tb):PE X (.BoolOp .Or (a :: b :: rest) pos) (aCM ta tb):=by
 intro pins s σ H Q I h
 refine BoolOp_or (thn (ha pins s σ H _ I h) fun v s1 ⟨x,H1,I1,r1,q1⟩=>?_)
 obtain ⟨c,rfl,q1⟩:=q1
 cases r1
 refine wpAny_truthy_bool ?_
 cases c with
 | false=>exact hb pins s1 σ H1 Q I1 q1
 | true=>exact ⟨.bl true,H1,I1,rfl,q1⟩
theorem aBA (ha:PE X a ta):PE X (.UnaryOp .Not a pos) (aCe ta):=by
 intro pins s σ H Q I h
 refine UnaryOp_ (thn (ha pins s σ H _ I h) fun v s1 ⟨x,H1,I1,r1,q1⟩=>?_)
 obtain ⟨c,rfl,q1⟩:=q1
 cases r1
 exact not_of (wpAny_truthy_bool ⟨.bl (!c),H1,I1,rfl,q1⟩)
end
end L2
namespace L2
open PySem PySem.Spec PyProof.Rows
noncomputable def SqL (K:PySem.W.Frag) (H:Hp) (a:Addr) (xs:List V):Prop:=
 Rd H a (.lst xs) ∨
  ∃ (o:Obj) (its:Array Value) (n:Nat),K.lookup a=some o∧o.cls = .type "list"∧o.dict=none∧o.data = .seq its n∧its.size≤sizeLine∧Vals xs its.toList
noncomputable def SqT (K:PySem.W.Frag) (H:Hp) (a:Addr) (xs:List V):Prop:=
 Rd H a (.tup xs) ∨
  ∃ (o:Obj) (its:Array Value) (n:Nat),K.lookup a=some o∧o.cls = .type "tuple"∧o.dict=none∧o.data = .seq its n∧its.size≤sizeLine∧Vals xs its.toList
noncomputable def aFP:Value→Option V
 | .none=>some .non
 | .bool b=>some (.bl b)
 | .int i _=>some (.int i)
 | .str x _=>some (.str x)
 | .bytes b _=>some (.byt b)
 | .float b _=>some (.flt b)
 | .ref a=>some (.ref a)
 | .type n=>some (.ty n)
 | _=>none
theorem RelV.abs {x:V}{u:Value}(r:RelV x u):aFP u=some x:=by
 cases x with
 | non=>cases r;rfl
 | bl _=>cases r;rfl
 | int _=>obtain ⟨t,rfl⟩:=r;rfl
 | str _=>obtain ⟨t,rfl⟩:=r;rfl
 | byt _=>obtain ⟨t,rfl⟩:=r;rfl
 | flt _=>obtain ⟨t,rfl⟩:=r;rfl
 | ref _=>cases r;rfl
 | ty _=>cases r;rfl
theorem RelV.inj {x y:V}{u:Value}(r:RelV x u)(q:RelV y u):x=y:=Option.some.inj (r.abs.symm.trans q.abs)
theorem Vals.inj:∀ {xs ys:List V} {us:List Value},Vals xs us→Vals ys us→xs=ys
 | _,_,_, .nil, .nil=>rfl
 | _,_,_, .cons r t, .cons r' t'=>by rw [r.inj r',Vals.inj t t']
section
variable {X:Cx}{pins:List (Addr × Obj)}{σ:St}{H:Hp}{s:Shared}{a:Addr}{xs ys:List V}
theorem SqL.of {K:PySem.W.Frag}(h:H a=some (.lst xs)):SqL K H a xs := .inl (.inl h)
theorem SqT.of {K:PySem.W.Frag}(h:H a=some (.tup xs)):SqT K H a xs := .inl (.inl h)
theorem Inv.list (I:Inv X pins σ H s)(h:SqL X.K H a xs):∃ its:List Value,Vals xs its∧PlainL s.heap a its.toArray∧xs.length≤sizeLine:=by
 rcases h with h | ⟨o,its,n,hk,hc,hd,hs,hz,r⟩
 ·obtain ⟨z,its,n,r,e⟩:=h.ok I.hok
  exact ⟨its,r,⟨_,n,e,rfl,rfl,rfl⟩,z⟩
 ·refine ⟨its.toList,r,⟨o,n,I.kIn a o hk,hc,hd,by simpa using hs⟩,?_⟩
  have e:=r.length
  simp only [Array.length_toList] at e
  omega
theorem Inv.tuple (I:Inv X pins σ H s)(h:SqT X.K H a xs):∃ its:List Value,Vals xs its∧IsTup s.heap a its.toArray∧xs.length≤sizeLine:=by
 rcases h with h | ⟨o,its,n,hk,hc,_,hs,hz,r⟩
 ·obtain ⟨z,its,r,p⟩:=h.ok I.hok
  exact ⟨its,r,p.tup,z⟩
 ·refine ⟨its.toList,r,⟨o,I.kIn a o hk,hc,n,by simpa using hs⟩,?_⟩
  have e:=r.length
  simp only [Array.length_toList] at e
  omega
theorem Inv.tupN (I:Inv X pins σ H s)(h:SqT X.K H a xs):∃ o,s.heap.get? a=some o∧o.dict=none:=by
 rcases h with h | ⟨o,its,n,hk,hc,hd,_⟩
 ·obtain ⟨_,_,_,p⟩:=h.ok I.hok
  exact p.bare
 ·exact ⟨o,I.kIn a o hk,hd⟩
theorem Inv.list_inj (I:Inv X pins σ H s)(h:SqL X.K H a xs)(h':SqL X.K H a ys):xs=ys:=by
 obtain ⟨its,r,⟨o,n,e,_,_,d⟩,_⟩:=I.list h
 obtain ⟨its',r',⟨o',n',e',_,_,d'⟩,_⟩:=I.list h'
 rw [e] at e';cases e'
 rw [d] at d'
 injection d' with d1 _
 have:its=its':=by simpa using congrArg Array.toList d1
 subst this
 exact r.inj r'
theorem Inv.tuple_inj (I:Inv X pins σ H s)(h:SqT X.K H a xs)(h':SqT X.K H a ys):xs=ys:=by
 obtain ⟨its,r,⟨o,e,_,n,d⟩,_⟩:=I.tuple h
 obtain ⟨its',r',⟨o',e',_,n',d'⟩,_⟩:=I.tuple h'
 rw [e] at e';cases e'
 rw [d] at d'
 injection d' with d1 _
 have:its=its':=by simpa using congrArg Array.toList d1
 subst this
 exact r.inj r'
end
noncomputable abbrev Cx.wish (X:Cx) (E:Value→Shared→Prop):Cx:={ X with xe:=E }
noncomputable abbrev Cx.nox (X:Cx):Cx:=X.wish fun _ _=>False
theorem Cx.Ok.wish {X:Cx}(ok:X.Ok)(E:Value→Shared→Prop):(X.wish E).Ok:=
 ⟨ok.mod,ok.kind,ok.glob,ok.blt,ok.above,ok.inj,ok.has,ok.cab,ok.hd,ok.frames,ok.stk,ok.exf,ok.bs,ok.bsz,ok.noex,ok.exfs,ok.funs,ok.frf⟩
theorem Cx.Ok.unwish {X:Cx}{E:Value→Shared→Prop}(ok:(X.wish E).Ok):X.Ok:=
 ⟨ok.mod,ok.kind,ok.glob,ok.blt,ok.above,ok.inj,ok.has,ok.cab,ok.hd,ok.frames,ok.stk,ok.exf,ok.bs,ok.bsz,ok.noex,ok.exfs,ok.funs,ok.frf⟩
section
variable {X:Cx}{pins:List (Addr × Obj)}{σ:St}{H:Hp}{s:Shared}{E:Value→Shared→Prop}
theorem Inv.wish (I:Inv X pins σ H s)(E:Value→Shared→Prop):Inv (X.wish E) pins σ H s:=⟨I.ok.wish E,I.os,I.bare,I.base,I.loc,I.cell,I.free,I.freeC,I.pin,I.hok,I.len⟩
theorem Inv.unwish (I:Inv (X.wish E) pins σ H s):Inv X pins σ H s:=⟨I.ok.unwish,I.os,I.bare,I.base,I.loc,I.cell,I.free,I.freeC,I.pin,I.hok,I.len⟩
theorem SP.unwish {D:iE}{f:Flow}{s':Shared}(h:SP (X.wish E) pins D f s'):SP X pins D f s':=by
 cases f with
 | next=>obtain ⟨σ',H',I,q⟩:=h;exact ⟨σ',H',I.unwish,q⟩
 | brk=>obtain ⟨σ',H',I,q⟩:=h;exact ⟨σ',H',I.unwish,q⟩
 | cont=>obtain ⟨σ',H',I,q⟩:=h;exact ⟨σ',H',I.unwish,q⟩
 | ret u=>obtain ⟨v,σ',H',I,r,q⟩:=h;exact ⟨v,σ',H',I.unwish,r,q⟩
theorem PSs.nox {st:List Stmt}{t:TS}(h:PSs X.nox st t):PSs X st t:=fun pins s σ H D I hw=>
 wpAny_mono (h pins s σ H D (I.wish _) hw) (fun _ _ q=>q.unwish) fun _ _ z=>False.elim z
end
section
variable {X:Cx}{st:Stmt}{rest:List Stmt}{t u:TS}{e:Expr}{te:TE}{pos:Pos}
noncomputable def aO:TS:=fun D σ H=>D.nx σ H
noncomputable def aS (t u:TS):TS:=fun D σ H=>t { D with nx:=u D } σ H
theorem aI:PSs X [] aO:=fun _ _ σ H _ I h=>wpAny_execs_nil ⟨σ,H,I,h⟩
theorem aC (h1:PS X st t)(h2:PSs X rest u):PSs X (st :: rest) (aS t u):=by
 intro pins s σ H D I h
 refine wpAny_execs_cons (thn (h1 pins s σ H { D with nx:=u D } I h) fun f s1 q=>?_)
 cases f with
 | next=>
  obtain ⟨σ',H',I',q⟩:=q
  exact h2 pins s1 σ' H' D I' q
 | ret v=>exact q
 | brk=>exact q
 | cont=>exact q
theorem Inv.quiet {pins:List (Addr × Obj)}{σ:St}{H:Hp}{s:Shared}(I:Inv X pins σ H s):interactive X.env=false:=by simp [interactive,I.ok.kind]
noncomputable def oX (te:TE):TS:=fun D σ H=>te σ H fun _ H1=>D.nx σ H1
theorem oR (he:PE X e te)(hs:swapsWith e none pos.line X.env=pure false:=by rfl):PS X (.Expr e pos) (oX te):=by
 intro pins s σ H D I h
 exact wpAny_Expr_any (thn (he pins s σ H _ I h) fun v s1 ⟨x,H1,I1,r1,q1⟩=>⟨σ,H1,I1,q1⟩) I.quiet hs
noncomputable def eD (te:TE):TS:=fun D σ H=>te σ H D.rt
theorem bJ (he:PE X e te):PS X (.Return (some e) pos) (eD te):=by
 intro pins s σ H D I h
 exact wpAny_Return_some (thn (he pins s σ H _ I h) fun v s1 ⟨x,H1,I1,r1,q1⟩=>⟨x,σ,H1,I1,r1,q1⟩)
noncomputable def mY (c:TT) (t u:TS):TS:=fun D σ H=>c σ H fun b H1=>if b=true then t D σ H1 else u D σ H1
theorem iQ {c:Expr}{a b:List Stmt}{tc:TT}(hc:PT X c tc)(ha:PSs X a t)(hb:PSs X b u):PS X (.If c a b pos) (mY tc t u):=by
 intro pins s σ H D I h
 refine wpAny_If (thn (hc pins s σ H _ I h) fun d s1 ⟨H1,I1,q1⟩=>?_)
 cases d with
 | true=>exact ha pins s1 σ H1 D I1 q1
 | false=>exact hb pins s1 σ H1 D I1 q1
end
noncomputable abbrev TG:=V→St→Hp→(St→Hp→Prop)→Prop
noncomputable abbrev TGs:=List V→St→Hp→(St→Hp→Prop)→Prop
noncomputable def PG (X:Cx) (target:Expr) (t:TG):Prop:=
 ∀ (pins:List (Addr × Obj)) (s:Shared) (σ:St) (H:Hp) (v:V) (u:Value) (Q:St→Hp→Prop),Inv X pins σ H s→RelV v u→t v σ H Q →
  wpAny (model X.prog X.w) X.A (assign target X.env u) (fun _ s'=>∃ σ' H',Inv X pins σ' H' s'∧Q σ' H') X.xe s
noncomputable def PGs (X:Cx) (ts:List Expr) (t:TGs):Prop:=
 ∀ (pins:List (Addr × Obj)) (s:Shared) (σ:St) (H:Hp) (vs:List V) (us:List Value) (Q:St→Hp→Prop),Inv X pins σ H s→Vals vs us→t vs σ H Q →
  wpAny (model X.prog X.w) X.A (assignInOrder ((assignEach ts X.env).map (·.2)) us) (fun _ s'=>∃ σ' H',Inv X pins σ' H' s'∧Q σ' H') X.xe s
noncomputable abbrev aEY:=V→V→V→Hp→(Hp→Prop)→Prop
noncomputable def aFm (X:Cx) (t:aEY):Prop:=
 ∀ (pins:List (Addr × Obj)) (s:Shared) (σ:St) (H:Hp) (o i v:V) (ov iv u:Value) (Q:Hp→Prop),Inv X pins σ H s→RelV o ov→RelV i iv→RelV v u→t o i v H Q →
  wpAny (model X.prog X.w) X.A (setItem ov iv u) (fun _ s'=>∃ H',Inv X pins σ H' s'∧Q H') X.xe s
section
variable {X:Cx}{pos:Pos}
noncomputable def aN (i:Nat):TG:=fun v σ H Q=>Q (σ.set i (some v)) H
theorem bE {i:Nat}{x:Str}(hN:X.N.Nodup)(hi:X.N[i]?=some x)(hx:Loc X.env.scope x)(hf:X.fn x=true∨X.env.scope.names.lookup x=some .local:=by first | exact .inl rfl | exact .inr rfl | assumption):PG X (.Name x pos) (aN i):=by
 intro pins s σ H v u Q I r h
 exact wpAny_assign_Name (uP I hN hi hx r (fun s' I'=>⟨_,H,I',h⟩) hf)
noncomputable def aBH:TGs:=fun vs σ H Q=>vs=[]∧Q σ H
noncomputable def iF (t:TG) (u:TGs):TGs:=fun vs σ H Q=>∃ v r,vs=v :: r∧t v σ H fun σ' H'=>u r σ' H' Q
theorem mN:PGs X [] aBH:=by
 intro pins s σ H vs us Q I r h
 obtain ⟨e,h⟩:=h
 subst e
 cases r
 exact assignInOrder_nil ⟨σ,H,I,h⟩
theorem cS {e:Expr}{es:List Expr}{t:TG}{u:TGs}(h1:PG X e t)(h2:PGs X es u)
  (hs:(assignEach (e :: es) X.env).map (·.2)=assign e X.env :: (assignEach es X.env).map (·.2):=by rfl):PGs X (e :: es) (iF t u):=by
 intro pins s σ H vs us Q I r h
 obtain ⟨v,vr,e1,h⟩:=h
 subst e1
 cases r with
 | cons r rr=>
  rw [hs]
  refine assignInOrder_cons (thn (h1 pins s σ H _ _ _ I r h) fun _ s1 ⟨σ1,H1,I1,q1⟩=>?_)
  exact h2 pins s1 σ1 H1 _ _ Q I1 rr q1
noncomputable def aBr (K:PySem.W.Frag) (n:Nat) (t:TGs):TG:=fun v σ H Q=>∃ a xs,v = .ref a∧SqT K H a xs∧xs.length=n∧t xs σ H Q
theorem aEb {es:List Expr}{k:Nat}{t:TGs}{n:Nat}(hc:X.calm=true)(h:PGs X es t)
  (hn:(assignEach es X.env).length=n:=by rfl) (hst:(assignEach es X.env).findIdx? (·.1)=none:=by rfl):PG X (.Tuple es k pos) (aBr X.K n t):=by
 intro pins s σ H v u Q I r hw
 obtain ⟨a,xs,e1,hq,hl,hw⟩:=hw
 subst e1
 cases r
 obtain ⟨its,rv,ht,hz⟩:=I.tuple hq
 refine assign_Tuple_tuple (I.ok.hd hc) ht (by simp [hn,← hl,rv.length]) hst fun h' hx=>?_
 have I1:Inv X pins σ H { s with heap:=h' }:=I.kept (t':=s.toks) fun b o e=>hx b o (Nat.ne_of_lt (Heap.lt_size e)) e
 exact h pins _ σ H xs _ Q I1 (by simpa using rv) hw
noncomputable def vN (to ti:TE) (t:aEY):TG:=fun v σ H Q=>to σ H fun o H1=>ti σ H1 fun i H2=>t o i v H2 fun H3=>Q σ H3
theorem nZ {o i:Expr}{to ti:TE}{t:aEY}(ho:PE X o to)(hi:PE X i ti)(hs:aFm X t)
  (ha:∀ v,assign (.Subscript o i pos) X.env v=(do
   let ov ← holding [v] (eval o X.env)
   let iv ← holding [v,ov] (eval i X.env)
   standAt pos
   holding [v,ov,iv] (setItem ov iv v)
   release [v,ov,iv] []):=by intro _;rfl):PG X (.Subscript o i pos) (vN to ti t):=by
 intro pins s σ H v u Q I r h
 rw [ha]
 refine wpAny_bind (wpAny_holding (thn (ho pins s σ H _ I h) fun ov s1 ⟨x,H1,I1,r1,q1⟩=>?_))
 refine wpAny_bind (wpAny_holding (thn (hi pins s1 σ H1 _ I1 q1) fun iv s2 ⟨y,H2,I2,r2,q2⟩=>?_))
 refine wpAny_bind (wpAny_standAt (wpAny_bind (wpAny_holding (thn (hs pins s2 σ H2 x y v ov iv u _ I2 r1 r2 r q2) fun _ s3 ⟨H3,I3,q3⟩=>?_))))
 exact wpAny_release ⟨σ,H3,I3,q3⟩
noncomputable def dB (te:TE) (g:TG):TS:=fun D σ H=>te σ H fun x H1=>g x σ H1 D.nx
theorem lB {tg e:Expr}{te:TE}{g:TG}(he:PE X e te)(hg:PG X tg g)(hs:swapsWithSole [tg] e pos.line X.env=pure false:=by rfl)(hw:swappedStores [tg] e X.env=pure none:=by rfl)
  (h1:(assignEach [tg] X.env).map (·.2)=[assign tg X.env]:=by rfl):PS X (.Assign [tg] e pos) (dB te g):=by
 intro pins s σ H D I h
 refine wpAny_Assign_stores (thn (he pins s σ H _ I h) fun v s1 ⟨x,H1,I1,r1,q1⟩=>?_) hs hw
 rw [h1]
 exact thn (hg pins s1 σ H1 x v _ I1 r1 q1) fun _ s2 q=>q
theorem bO {i:Nat}{x:Str}{e:Expr}{te:TE}{pos':Pos}(hN:X.N.Nodup)(hi:X.N[i]?=some x)(hx:Loc X.env.scope x)(he:PE X e te)(hs:swapsWith e (some (.Name x pos')) pos.line X.env=pure false:=by rfl)(hf:X.fn x=true∨X.env.scope.names.lookup x=some .local:=by first | exact .inl rfl | exact .inr rfl | assumption) :
  PS X (.Assign [.Name x pos'] e pos) (dB te (aN i)):=by
 intro pins s σ H D I h
 refine wpAny_Assign_Name (thn (he pins s σ H _ I h) fun v s1 ⟨y,H1,I1,r1,q1⟩=>?_) hs
 exact uP I1 hN hi hx r1 (fun s2 I2=>⟨_,H1,I2,q1⟩) hf
end
section
variable {X:Cx}{pos:Pos}
noncomputable def tZ (c:TT) (tb:TS):TS:=fun D σ H=>∃ W:Nat→St→Hp→Prop,(∃ m,W m σ H)∧∀ m σ H,W m σ H →
 c σ H fun b H1=>if b=true then ∃ N:St→Hp→Prop,(∀ σ' H',N σ' H'→∃ m',m'<m∧W m' σ' H')∧tb { D with nx:=N,ct:=N,bk:=D.nx } σ H1 else D.nx σ H1
theorem pD {c:Expr}{body:List Stmt}{tc:TT}{tb:TS}(hp:PassesOwn (model X.prog X.w) X.A X.env X.xe)(hc:PT X c tc)(hb:PSs X body tb):PS X (.While c body [] pos) (tZ tc tb):=by
 intro pins s σ H D I h
 obtain ⟨W,⟨m0,w0⟩,turn⟩:=h
 refine wpAny_While (codeAny_whileLoop (fun n s'=>∃ σ' H',Inv X pins σ' H' s'∧W n σ' H') ?_ m0 ⟨σ,H,I,w0⟩)
 rintro n s1 ⟨σ1,H1,I1,w1⟩
 refine wpAny_passesOwn hp (thn (hc pins s1 σ1 H1 _ I1 (turn n σ1 H1 w1)) fun b s2 ⟨H2,I2,q2⟩=>?_)
 cases b with
 | true=>
  obtain ⟨N,hN,q2⟩:=q2
  rw [if_pos rfl]
  refine wpAny_passesOwn hp (thn (hb pins s2 σ1 H2 _ I2 q2) fun f s3 q3=>?_)
  cases f with
  | next=>
   obtain ⟨σ3,H3,I3,n3⟩:=q3
   obtain ⟨m',hm,w3⟩:=hN σ3 H3 n3
   exact ⟨m',hm,σ3,H3,I3,w3⟩
  | cont=>
   obtain ⟨σ3,H3,I3,n3⟩:=q3
   obtain ⟨m',hm,w3⟩:=hN σ3 H3 n3
   exact ⟨m',hm,σ3,H3,I3,w3⟩
  | brk=>exact q3
  | ret v=>exact q3
 | false=>
  rw [if_neg Bool.false_ne_true]
  exact wpAny_execs_nil ⟨σ1,H2,I2,q2⟩
end
structure It where
 go:Nat→Hp→Prop
 yld:Nat→Hp→V→Hp→Prop
 stop:Nat→Hp→Prop
noncomputable def FpOk (X:Cx) (pins:List (Addr × Obj)) (H:Hp) (b:Addr):Prop:=
 H b=none∧b≠X.env.locals∧b∉X.fs∧(b∈X.ex∨X.s₀.heap.objs.size≤b)∧(∀ x c,X.env.cells.lookup x=some c→c≠b)∧∀ p∈X.pn++pins,p.1≠b
theorem Inv.fpOk {X:Cx}{pins:List (Addr × Obj)}{σ:St}{H H':Hp}{s:Shared}{b:Addr}(I:Inv X pins σ H s)(hb:s.heap.objs.size≤b)(hn:H' b=none):FpOk X pins H' b:=by
 refine ⟨hn,Nat.ne_of_gt (Nat.lt_of_lt_of_le I.lt hb),I.nofs hb, .inr (Nat.le_trans I.sz hb),fun x c e z=>?_,fun p hp z=>?_⟩
 ·obtain ⟨v,q⟩:=I.cell x c e
  exact absurd (Nat.lt_of_lt_of_le q.lt (by rw [z];exact hb)) (Nat.lt_irrefl _)
 ·exact absurd (Nat.lt_of_lt_of_le (Heap.lt_size (I.pin p hp).1) (by rw [z];exact hb)) (Nat.lt_irrefl _)
structure aAt (P:Program)(w:World)(K:PySem.W.Frag)(tg:Expr)(J:It)(fp:List Addr)(it:Addr)(tn:Nat→Heap→Prop):Prop where
 mem:it∈fp
 obj:∀ i h,tn i h→∀ b∈fp,∃ o,h.get? b=some o∧∀ v,o.data ≠ .cell v
 keep:∀ i h h',tn i h→(∀ b∈fp,∀ o,h.get? b=some o→h'.get? b=some o)→tn i h'
 item:∀ (X:Cx),X.prog=P→X.w=w→X.K=K→X.calm=true→∀ (i:Nat) (pins:List (Addr × Obj)) (s:Shared) (σ:St) (H:Hp) (E:Value→Shared→Prop),Inv X pins σ H s→(∀ b∈fp,FpOk X pins H b)→tn i s.heap→J.go i H →
  wpAny (model P w) X.A (pyNext (.ref it)) (fun r s1=>∃ u,r=some u ∧
   wpAny (model P w) X.A (letOwnedTupleGo tg (.ref it) u) (fun _ s2=>∃ x H',Inv X pins σ H' s2∧RelV x u∧J.yld i H x H'∧tn (i+1) s2.heap∧∀ b∈fp,H' b=none) E s1) E s
 done:∀ (X:Cx),X.prog=P→X.w=w→X.K=K→X.calm=true→∀ (i:Nat) (pins:List (Addr × Obj)) (s:Shared) (σ:St) (H:Hp) (E:Value→Shared→Prop),Inv X pins σ H s→(∀ b∈fp,FpOk X pins H b)→tn i s.heap→J.stop i H →
  wpAny (model P w) X.A (pyNext (.ref it)) (fun r s1=>r=none∧Inv X pins σ H s1) E s
 self:∀ (A:Around) (i:Nat) (s:Shared) (Q:Value→Shared→Prop) (E:Value→Shared→Prop),tn i s.heap→Q (.ref it) s→wpAny (model P w) A (pyIter (.ref it)) Q E s
noncomputable abbrev TI:=St→Hp→(It→Hp→Prop)→Prop
noncomputable def PIE (X:Cx) (pins:List (Addr × Obj)) (σ:St) (tg:Expr) (R:It→Hp→Prop) (itv:Value) (s2:Shared):Prop:=
 ∃ (it:Addr) (fp:List Addr) (tn:Nat→Heap→Prop) (J:It) (H':Hp),itv = .ref it∧Inv X pins σ H' s2∧aAt X.prog X.w X.K tg J fp it tn∧tn 0 s2.heap∧(∀ b∈fp,FpOk X pins H' b)∧R J H'
noncomputable def PI (X:Cx) (tg iter:Expr) (wi:TI):Prop:=
 ∀ (pins:List (Addr × Obj)) (s:Shared) (σ:St) (H:Hp) (R:It→Hp→Prop),Inv X pins σ H s→wi σ H R →
  wpAny (model X.prog X.w) X.A (eval iter X.env) (fun v s1=>wpAny (model X.prog X.w) X.A (pyIter v) (PIE X pins σ tg R) X.xe s1) X.xe s
theorem aAU {M : Model} {A : Around} {E : Value → Shared → Prop} {s : Shared} {tg : Expr} {it : Addr} {u : Value} {o : Obj} {n : String} {vs : Array Value} {Q : Unit → Shared → Prop} (ho : s.heap.get? it = some o) (hc : o.cls = .type n) (hd : o.data = .fields vs)
    (hn : ["enumerate", "zip", "dict_itemiterator", "dict_reverseitemiterator", "odict_iterator", "itertools.zip_longest", "itertools.pairwise"].contains n = false) (hQ : Q () s) : wpAny M A (letOwnedTupleGo tg (.ref it) u) Q E s := by
  unfold letOwnedTupleGo
  cases tg <;> first
    | exact wpAny_pure hQ
    | (cases u <;> first
        | exact wpAny_pure hQ
        | (refine wpAny_bind (wpAny_load ho ?_)
           rw [hc, hd]
           show wpAny M A (if (["enumerate", "zip", "dict_itemiterator", "dict_reverseitemiterator", "odict_iterator", "itertools.zip_longest", "itertools.pairwise"].contains n && vs[0]? == some (rawInt _)) = true then _ else _) Q E s
           rw [if_neg (by intro h; rw [hn, Bool.false_and] at h; cases h)]
           exact wpAny_pure hQ))
noncomputable def Itl (K:PySem.W.Frag) (a:Addr):It:=
 ⟨fun i H=>∃ xs x,SqL K H a xs∧xs[i]?=some x,fun i H x H'=>H'=H∧∀ xs,SqL K H a xs→xs[i]?=some x,fun i H=>∃ xs,SqL K H a xs∧xs.length≤i⟩
noncomputable def Itt (K:PySem.W.Frag) (a:Addr):It:=
 ⟨fun i H=>∃ xs x,SqT K H a xs∧xs[i]?=some x,fun i H x H'=>H'=H∧∀ xs,SqT K H a xs→xs[i]?=some x,fun i H=>∃ xs,SqT K H a xs∧xs.length≤i⟩
noncomputable def Itr (lo:Int) (n:Nat):It:=⟨fun i _=>i<n,fun i H x H'=>H'=H∧x = .int (lo+i),fun i _=>n≤i⟩
theorem vX {P:Program}{w:World}{K:PySem.W.Frag}{tg:Expr}(a it:Addr):aAt P w K tg (Itl K a) [it] it (fun i h=>h.IsListIter it a i) where
 mem:=by simp
 obj:=fun i h st b hb=>by
  have e:b=it:=by simpa using hb
  subst e
  obtain ⟨o,e,c,d⟩:=st
  exact ⟨o,e,fun v z=>by rw [d] at z;cases z⟩
 keep:=fun i h h' st k=>st.at fun o e=>k it (by simp) o e
 item:=by
  intro X hP hw hK hc i pins s σ H E I hf st hg
  subst hP hw hK
  obtain ⟨xs,x,hq,hx⟩:=hg
  obtain ⟨its,rv,p,hz⟩:=I.list hq
  obtain ⟨u,hu,ru⟩:=rv.get hx
  obtain ⟨f0,f1,f2,f3,f4,f5⟩:=hf it (by simp)
  refine wpAny_pyNext_list_item st p.isList (x:=u) (by simpa using hu) fun h' st' sb=>?_
  have I1:Inv X pins σ H { s with heap:=h' }:=I.turned (t':=s.toks) (fun b o hb e=>(sb.2 b hb).trans e) f0 f1 f3 f4 f5
  obtain ⟨o,e,c,d⟩:=id st'
  exact ⟨u,rfl,aAU (s:={ s with heap:=h' }) e c d (by decide) ⟨x,H,I1,ru,⟨rfl,fun ys hy=>by rw [I.list_inj hy hq];exact hx⟩,st',fun b hb=>(hf b hb).1⟩⟩
 done:=by
  intro X hP hw hK hc i pins s σ H E I hf st hg
  subst hP hw hK
  obtain ⟨xs,hq,hx⟩:=hg
  obtain ⟨its,rv,p,hz⟩:=I.list hq
  obtain ⟨f0,f1,f2,f3,f4,f5⟩:=hf it (by simp)
  have hl:=rv.length
  exact wpAny_pyNext_list_end (I.ok.hd hc) st p.isList (by simp;omega) fun h' eb=>⟨rfl,I.turned (t':=s.toks) (fun b o hb e=>eb b o hb e) f0 f1 f3 f4 f5⟩
 self:=fun _ _ _ _ _ st h=>wpAny_pyIter_listiter st h
theorem vB {P:Program}{w:World}{K:PySem.W.Frag}{tg:Expr}(a it:Addr):aAt P w K tg (Itt K a) [it] it (fun i h=>h.IsTupleIter it a i) where
 mem:=by simp
 obj:=fun i h st b hb=>by
  have e:b=it:=by simpa using hb
  subst e
  obtain ⟨o,e,c,d⟩:=st
  exact ⟨o,e,fun v z=>by rw [d] at z;cases z⟩
 keep:=fun i h h' st k=>st.at fun o e=>k it (by simp) o e
 item:=by
  intro X hP hw hK hc i pins s σ H E I hf st hg
  subst hP hw hK
  obtain ⟨xs,x,hq,hx⟩:=hg
  obtain ⟨its,rv,p,hz⟩:=I.tuple hq
  obtain ⟨u,hu,ru⟩:=rv.get hx
  obtain ⟨f0,f1,f2,f3,f4,f5⟩:=hf it (by simp)
  refine wpAny_pyNext_tuple_item st (show s.heap.IsTuple a its.toArray from p) (x:=u) (by simpa using hu) fun h' st' sb=>?_
  have I1:Inv X pins σ H { s with heap:=h' }:=I.turned (t':=s.toks) (fun b o hb e=>(sb.2 b hb).trans e) f0 f1 f3 f4 f5
  obtain ⟨o,e,c,d⟩:=id st'
  exact ⟨u,rfl,aAU (s:={ s with heap:=h' }) e c d (by decide) ⟨x,H,I1,ru,⟨rfl,fun ys hy=>by rw [I.tuple_inj hy hq];exact hx⟩,st',fun b hb=>(hf b hb).1⟩⟩
 done:=by
  intro X hP hw hK hc i pins s σ H E I hf st hg
  subst hP hw hK
  obtain ⟨xs,hq,hx⟩:=hg
  obtain ⟨its,rv,p,hz⟩:=I.tuple hq
  obtain ⟨f0,f1,f2,f3,f4,f5⟩:=hf it (by simp)
  have hl:=rv.length
  exact wpAny_pyNext_tuple_end (I.ok.hd hc) st (show s.heap.IsTuple a its.toArray from p) (by simp;omega) fun h' eb=>⟨rfl,I.turned (t':=s.toks) (fun b o hb e=>eb b o hb e) f0 f1 f3 f4 f5⟩
 self:=fun _ _ _ _ _ st h=>wpAny_pyIter_tupleiter st h
theorem vJ {P:Program}{w:World}{K:PySem.W.Frag}{tg:Expr}(it:Addr)(lo:Int)(n:Nat):aAt P w K tg (Itr lo n) [it] it (fun i h=>IsRangeIter h it (lo+(i:Nat)*1) ((n:Int) - (i:Nat)) 1) where
 mem:=by simp
 obj:=fun i h st b hb=>by
  have e:b=it:=by simpa using hb
  subst e
  exact ⟨_,st,fun v z=>by
   have z':Data.fields _=Data.cell v:=z
   cases z'⟩
 keep:=fun i h h' st k=>k it (by simp) _ st
 item:=by
  intro X hP hw hK hc i pins s σ H E I hf st hg
  subst hP hw hK
  obtain ⟨f0,f1,f2,f3,f4,f5⟩:=hf it (by simp)
  have W:=Walks.range (prog:=X.prog) (w:=X.w) (I.ok.hd hc) it lo 1 n
  refine W.item i s _ _ hg st fun v h' tk hv st' kk=>?_
  obtain ⟨t,rfl⟩:=hv
  have I1:Inv X pins σ H { s with heap:=h',toks:=tk }:=I.turned (fun b o hb e=>kk b o (by simpa using hb) e) f0 f1 f3 f4 f5
  refine ⟨_,rfl,aAU (s:={ s with heap:=h',toks:=tk }) (n:="range_iterator") st' rfl rfl (by decide) ⟨.int (lo+i),H,I1,⟨t,?_⟩,⟨rfl,rfl⟩,st',fun b hb=>(hf b hb).1⟩⟩
  rw [Int.mul_one]
 done:=by
  intro X hP hw hK hc i pins s σ H E I hf st hg
  subst hP hw hK
  obtain ⟨f0,f1,f2,f3,f4,f5⟩:=hf it (by simp)
  exact wpAny_pyNext_range_end (I.ok.hd hc) st (by have:n≤i:=hg;omega) fun h' eb=>⟨rfl,I.turned (t':=s.toks) (fun b o hb e=>eb b o hb e) f0 f1 f3 f4 f5⟩
 self:=fun _ _ _ _ _ st h=>wpAny_pyIter_rangeiter st h
end L2
namespace L2
open PySem PySem.Spec PyProof.Rows
section
variable {X:Cx}{tg:Expr}
theorem uK {pins:List (Addr × Obj)}{σ:St}{H:Hp}{s:Shared}{R:It→Hp→Prop}{E:Value→Shared→Prop}{lo hi:Int}{t u v:Tok}{tk:Nat}(I:Inv X pins σ H s)(h1:-(2 ^ 62)≤lo)(h2:lo<2 ^ 62)(h3:-(2 ^ 62)≤hi)(h4:hi<2 ^ 62)
  (q:R (Itr lo (hi - lo).toNat) H):wpAny (model X.prog X.w) X.A (pyIter (.ref s.heap.objs.size)) (PIE X pins σ tg R) E { s with heap:=s.heap.push { cls := .type "range",data := .fields #[.int lo t, .int hi u, .int 1 v] },toks:=tk }:=by
 refine wpAny_pyIter_range (IsRange.new ..) (small_one h1 h2 h3 h4) ?_
 have I1:Inv X pins σ H { s with heap:=s.heap.push { cls := .type "range",data := .fields #[.int lo t, .int hi u, .int 1 v] },toks:=tk }:=I.kept fun b o e=>Heap.get?_push_of_some _ e
 refine ⟨(s.heap.push { cls := .type "range",data := .fields #[.int lo t, .int hi u, .int 1 v] }).objs.size,[(s.heap.push { cls := .type "range",data := .fields #[.int lo t, .int hi u, .int 1 v] }).objs.size],_,_,H,rfl,
  I1.kept (t':=tk) fun b o e=>Heap.get?_push_of_some _ e,vJ _ lo (hi - lo).toNat,?_,fun b hb=>?_,q⟩
 ·have e1:lo+((0:Nat):Int)*1=lo:=by simp
  have e2:(((hi - lo).toNat:Nat):Int) - ((0:Nat):Int)=Builtin.Range.rangeSize lo hi 1:=by rw [rangeSize_one];split <;> omega
  show IsRangeIter _ _ (lo+((0:Nat):Int)*1) ((((hi - lo).toNat:Nat):Int) - ((0:Nat):Int)) 1
  rw [e1,e2]
  exact Heap.get?_push_size _ rfl
 ·have e:b=(s.heap.push { cls := .type "range",data := .fields #[.int lo t, .int hi u, .int 1 v] }).objs.size:=by simpa using hb
  subst e
  exact I1.fpOk (Nat.le_refl _) (I1.hok.fresh (Nat.le_refl _))
noncomputable def nF (ta:TA):TI:=fun σ H R=>ta σ H fun vs H1=>∃ j:Int,vs=[.int j]∧-(2 ^ 62)≤j∧j<2 ^ 62∧R (Itr 0 j.toNat) H1
noncomputable def rP (ta:TA):TI:=fun σ H R=>ta σ H fun vs H1=>∃ i j:Int,vs=[.int i, .int j]∧(-(2 ^ 62)≤i∧i<2 ^ 62∧-(2 ^ 62)≤j∧j<2 ^ 62)∧R (Itr i (j - i).toNat) H1
theorem eW {a:Expr}{ta:TA}{p pos:Pos}(hg:Gl X "range")(hm:X.mg "range" = none)(ha:PA X [a] ta)(hs:starEach [a] X.env=[(false,eval a X.env)]:=by rfl):PI X tg (.Call (.Name "range" p) [a] [] pos) (nF ta):=by
 intro pins s σ H R I h
 refine Call_ (kJ I hg hm boot_range (PyProof.Rows.callWith_type1 (thn (ha pos pins s σ H _ I h) fun us s1 ⟨vs,H1,I1,r1,q1⟩=>?_) hs rfl))
 obtain ⟨j,e,q1,q2,q⟩:=q1
 subst e
 cases r1 with
 | cons r rr=>
  cases rr
  obtain ⟨t,rfl⟩:=r
  exact call_range_1 (uK I1 (by omega) (by omega) q1 q2 (by simpa using q))
theorem iJ {a b:Expr}{ta:TA}{p pos:Pos}(hg:Gl X "range")(hm:X.mg "range" = none)(ha:PA X [a,b] ta)(hs:starEach [a,b] X.env=[(false,eval a X.env),(false,eval b X.env)]:=by rfl)(hs2:starEach [b] X.env=[(false,eval b X.env)]:=by rfl) :
  PI X tg (.Call (.Name "range" p) [a,b] [] pos) (rP ta):=by
 intro pins s σ H R I h
 refine Call_ (kJ I hg hm boot_range (PyProof.Rows.callWith_type1 (thn (ha pos pins s σ H _ I h) fun us s1 ⟨vs,H1,I1,r1,q1⟩=>?_) (by rw [hs,hs2]) (by rw [hs2];rfl)))
 obtain ⟨i,j,e,⟨q1,q2,q3,q4⟩,q⟩:=q1
 subst e
 cases r1 with
 | cons r rr=>
  cases rr with
  | cons r' rr=>
   cases rr
   obtain ⟨t,rfl⟩:=r
   obtain ⟨t',rfl⟩:=r'
   exact call_range_2 (uK I1 q1 q2 q3 q4 q)
noncomputable def rQ (wi:TI) (g:TG) (tb:TS):TS:=fun D σ H=>wi σ H fun J H1=>∃ W:Nat→Nat→St→Hp→Prop,(∃ m,W 0 m σ H1)∧∀ i m σ H,W i m σ H →
 (J.stop i H∧D.nx σ H)∨(J.go i H∧∃ N:St→Hp→Prop,(∀ σ' H',N σ' H'→∃ m',m'<m∧W (i+1) m' σ' H')∧∀ x H',J.yld i H x H'→g x σ H' fun σ2 H2=>tb { D with nx:=N,ct:=N,bk:=D.nx } σ2 H2)
noncomputable def qU (fp:List Addr) (h:Heap):List (Addr × Obj):=fp.filterMap fun b=>(h.get? b).map fun o=>(b,o)
theorem gM {fp:List Addr}{h:Heap}{b:Addr}{o:Obj}(hb:b∈fp)(e:h.get? b=some o):(b,o)∈qU fp h:=List.mem_filterMap.mpr ⟨b,hb,by rw [e];rfl⟩
theorem xD {fp:List Addr}{h:Heap}{p:Addr × Obj}(hp:p∈qU fp h):p.1∈fp∧h.get? p.1=some p.2:=by
 obtain ⟨b,hb,e⟩:=List.mem_filterMap.mp hp
 cases q:h.get? b with
 | none=>rw [q] at e;cases e
 | some o=>
  rw [q] at e
  have e':(b,o)=p:=Option.some.inj e
  subst e'
  exact ⟨hb,q⟩
theorem Inv.pinned {pins:List (Addr × Obj)}{σ:St}{H:Hp}{s:Shared}{fp:List Addr}(I:Inv X pins σ H s)(hf:∀ b∈fp,FpOk X pins H b)(ho:∀ b∈fp,∃ o,s.heap.get? b=some o∧∀ v,o.data ≠ .cell v):Inv X (pins++qU fp s.heap) σ H s:=
 I.pins_of fun p hp=>(List.mem_append.mp hp).elim (fun z=>I.pin p (List.mem_append_right _ z)) fun z=>by
  obtain ⟨hb,e⟩:=xD z
  obtain ⟨f0,f1,f2,_⟩:=hf p.1 hb
  obtain ⟨o,e',d⟩:=ho p.1 hb
  rw [e] at e';cases e'
  exact ⟨e,f0,f1,f2,d⟩
theorem Inv.unpinned {pins pl:List (Addr × Obj)}{σ:St}{H:Hp}{s:Shared}(I:Inv X (pins++pl) σ H s):Inv X pins σ H s:=I.pins_of fun p hp=>I.pin p (List.mem_append_right _ (List.mem_append_left _ hp))
theorem iW {iter:Expr}{body:List Stmt}{wi:TI}{g:TG}{tb:TS}{pos:Pos}(hp:PassesOwn (model X.prog X.w) X.A X.env X.xe)(hc:X.calm=true)(hi:PI X tg iter wi)(hg:PG X tg g)(hb:PSs X body tb)
  (hs:∀ x,foldedSetIterable iter X.env x=pure x:=by intro _;rfl):PS X (.For tg iter body [] pos) (rQ wi g tb):=by
 intro pins s σ H D I h
 refine wpAny_For (thn (hi pins s σ H _ I h) fun v s1 h1=>thn h1 fun itv s2 h2=>?_) hs
 obtain ⟨it,fp,tn,J,H2,e,I2,T,st2,f2,W,⟨m0,w0⟩,turn⟩:=h2
 subst e
 have stat:∀ {H':Hp},(∀ b∈fp,H' b=none)→∀ b∈fp,FpOk X pins H' b:=fun hn b hb=>⟨hn b hb,(f2 b hb).2⟩
 refine codeAny_forLoop_any (fun n s'=>∃ i σ' H',Inv X pins σ' H' s'∧tn i s'.heap∧(∀ b∈fp,H' b=none)∧W i n σ' H') ?_ m0 ⟨0,σ,H2,I2,st2,fun b hb=>(f2 b hb).1,w0⟩
 rintro n s3 ⟨i,σ3,H3,I3,st3,fr3,w3⟩
 rcases turn i n σ3 H3 w3 with ⟨stop,qn⟩ | ⟨go,N,hN,step⟩
 ·refine wpAny_passesOwn hp (thn (T.done X rfl rfl rfl hc i pins s3 σ3 H3 X.xe I3 (stat fr3) st3 stop) fun r s4 ⟨hr,I4⟩=>?_)
  subst hr
  exact wpAny_execs_nil ⟨σ3,H3,I4,qn⟩
 ·refine wpAny_passesOwn hp (thn (T.item X rfl rfl rfl hc i pins s3 σ3 H3 X.xe I3 (stat fr3) st3 go) fun r s4 ⟨u,hr,h4⟩=>?_)
  subst hr
  refine wpAny_passesOwn hp (thn h4 fun _ s5 ⟨x,H5,I5,r5,y5,st5,fr5⟩=>?_)
  have I5':=I5.pinned (stat fr5) (T.obj _ _ st5)
  refine wpAny_passesOwn hp (thn (hg _ s5 σ3 H5 x u _ I5' r5 (step x H5 y5)) fun _ s6 ⟨σ6,H6,I6,q6⟩=>?_)
  refine wpAny_passesOwn hp (thn (hb _ s6 σ6 H6 _ I6 q6) fun f s7 q7=>?_)
  have again:∀ {σ7:St} {H7:Hp},Inv X (pins++qU fp s5.heap) σ7 H7 s7→N σ7 H7→∃ m,m<n∧∃ i σ' H',Inv X pins σ' H' s7∧tn i s7.heap∧(∀ b∈fp,H' b=none)∧W i m σ' H':=fun {σ7 H7} I7 n7=>by
   obtain ⟨m',hm,w7⟩:=hN σ7 H7 n7
   refine ⟨m',hm,i+1,σ7,H7,I7.unpinned,T.keep _ _ _ st5 fun b hb o e=>(I7.pin (b,o) (List.mem_append_right _ (List.mem_append_right _ (gM hb e)))).1,fun b hb=>?_,w7⟩
   obtain ⟨o,e,d⟩:=T.obj _ _ st5 b hb
   exact (I7.pin (b,o) (List.mem_append_right _ (List.mem_append_right _ (gM hb e)))).2.1
  cases f with
  | next=>obtain ⟨σ7,H7,I7,n7⟩:=q7;exact again I7 n7
  | cont=>obtain ⟨σ7,H7,I7,n7⟩:=q7;exact again I7 n7
  | brk=>obtain ⟨σ7,H7,I7,q7⟩:=q7;exact ⟨σ7,H7,I7.unpinned,q7⟩
  | ret v=>obtain ⟨x7,σ7,H7,I7,r7,q7⟩:=q7;exact ⟨x7,σ7,H7,I7.unpinned,r7,q7⟩
end
theorem oW {K:PySem.W.Frag}{a:Addr}{xs:List V}{g:TG}{tb:TS}{D:iE}{σ:St}{H:Hp}(Pv:Nat→St→Hp→Prop)(h0:Pv 0 σ H)(hl:∀ i σ H,i≤xs.length→Pv i σ H→SqL K H a xs)
  (hs:∀ i x σ H,xs[i]?=some x→Pv i σ H→g x σ H fun σ2 H2=>tb { D with nx:=Pv (i+1),ct:=Pv (i+1),bk:=D.nx } σ2 H2) (hd:∀ σ H,Pv xs.length σ H→D.nx σ H) :
  ∃ W:Nat→Nat→St→Hp→Prop,(∃ m,W 0 m σ H)∧∀ i m σ H,W i m σ H →
   ((Itl K a).stop i H∧D.nx σ H)∨((Itl K a).go i H∧∃ N:St→Hp→Prop,(∀ σ' H',N σ' H'→∃ m',m'<m∧W (i+1) m' σ' H')∧∀ x H',(Itl K a).yld i H x H'→g x σ H' fun σ2 H2=>tb { D with nx:=N,ct:=N,bk:=D.nx } σ2 H2):=by
 refine ⟨fun i m σ H=>m=xs.length - i∧i≤xs.length∧Pv i σ H,⟨xs.length,by simp,Nat.zero_le _,h0⟩,?_⟩
 rintro i m σ H ⟨rfl,hi,p⟩
 have q:=hl i σ H hi p
 by_cases hlt:i<xs.length
 ·refine .inr ⟨⟨xs,xs[i],q,by simp [hlt]⟩,Pv (i+1),fun σ' H' p'=>⟨xs.length - (i+1),by omega,rfl,hlt,p'⟩,fun x H' y=>?_⟩
  obtain ⟨e,y⟩:=y
  subst e
  exact hs i x σ _ (y xs q) p
 ·have e:i=xs.length:=by omega
  subst e
  exact .inl ⟨⟨xs,q,Nat.le_refl _⟩,hd σ H p⟩
theorem zK {K:PySem.W.Frag}{a:Addr}{xs:List V}{g:TG}{tb:TS}{D:iE}{σ:St}{H:Hp}(Pv:Nat→St→Hp→Prop)(h0:Pv 0 σ H)(hl:∀ i σ H,i≤xs.length→Pv i σ H→SqT K H a xs)
  (hs:∀ i x σ H,xs[i]?=some x→Pv i σ H→g x σ H fun σ2 H2=>tb { D with nx:=Pv (i+1),ct:=Pv (i+1),bk:=D.nx } σ2 H2) (hd:∀ σ H,Pv xs.length σ H→D.nx σ H) :
  ∃ W:Nat→Nat→St→Hp→Prop,(∃ m,W 0 m σ H)∧∀ i m σ H,W i m σ H →
   ((Itt K a).stop i H∧D.nx σ H)∨((Itt K a).go i H∧∃ N:St→Hp→Prop,(∀ σ' H',N σ' H'→∃ m',m'<m∧W (i+1) m' σ' H')∧∀ x H',(Itt K a).yld i H x H'→g x σ H' fun σ2 H2=>tb { D with nx:=N,ct:=N,bk:=D.nx } σ2 H2):=by
 refine ⟨fun i m σ H=>m=xs.length - i∧i≤xs.length∧Pv i σ H,⟨xs.length,by simp,Nat.zero_le _,h0⟩,?_⟩
 rintro i m σ H ⟨rfl,hi,p⟩
 have q:=hl i σ H hi p
 by_cases hlt:i<xs.length
 ·refine .inr ⟨⟨xs,xs[i],q,by simp [hlt]⟩,Pv (i+1),fun σ' H' p'=>⟨xs.length - (i+1),by omega,rfl,hlt,p'⟩,fun x H' y=>?_⟩
  obtain ⟨e,y⟩:=y
  subst e
  exact hs i x σ _ (y xs q) p
 ·have e:i=xs.length:=by omega
  subst e
  exact .inl ⟨⟨xs,q,Nat.le_refl _⟩,hd σ H p⟩
theorem dY {lo:Int}{n:Nat}{g:TG}{tb:TS}{D:iE}{σ:St}{H:Hp}(Pv:Nat→St→Hp→Prop)(h0:Pv 0 σ H)
  (hs:∀ i σ H,i<n→Pv i σ H→g (.int (lo+i)) σ H fun σ2 H2=>tb { D with nx:=Pv (i+1),ct:=Pv (i+1),bk:=D.nx } σ2 H2) (hd:∀ σ H,Pv n σ H→D.nx σ H) :
  ∃ W:Nat→Nat→St→Hp→Prop,(∃ m,W 0 m σ H)∧∀ i m σ H,W i m σ H →
   ((Itr lo n).stop i H∧D.nx σ H)∨((Itr lo n).go i H∧∃ N:St→Hp→Prop,(∀ σ' H',N σ' H'→∃ m',m'<m∧W (i+1) m' σ' H')∧∀ x H',(Itr lo n).yld i H x H'→g x σ H' fun σ2 H2=>tb { D with nx:=N,ct:=N,bk:=D.nx } σ2 H2):=by
 refine ⟨fun i m σ H=>m=n - i∧i≤n∧Pv i σ H,⟨n,by simp,Nat.zero_le _,h0⟩,?_⟩
 rintro i m σ H ⟨rfl,hi,p⟩
 by_cases hlt:i<n
 ·refine .inr ⟨hlt,Pv (i+1),fun σ' H' p'=>⟨n - (i+1),by omega,rfl,hlt,p'⟩,fun x H' y=>?_⟩
  obtain ⟨e,y⟩:=y
  subst e y
  exact hs i σ _ hlt p
 ·have e:i=n:=by omega
  subst e
  exact .inl ⟨Nat.le_refl _,hd σ H p⟩
end L2
namespace L2
open PySem PySem.Spec PyProof.Rows
noncomputable abbrev R2:=V→V→Hp→VK→Prop
noncomputable def OpR (X:Cx) (f:Value→Value→Sem Value) (r:R2):Prop:=
 ∀ (pins:List (Addr × Obj)) (s:Shared) (σ:St) (H:Hp) (x y:V) (v u:Value) (Q:VK),Inv X pins σ H s→RelV x v→RelV y u→r x y H Q →
  wpAny (model X.prog X.w) X.A (f v u) (EP X pins σ Q) X.xe s
noncomputable def UnR (X:Cx) (f:Value→Sem Value) (r:V→Hp→VK→Prop):Prop:=
 ∀ (pins:List (Addr × Obj)) (s:Shared) (σ:St) (H:Hp) (x:V) (v:Value) (Q:VK),Inv X pins σ H s→RelV x v→r x H Q →
  wpAny (model X.prog X.w) X.A (f v) (EP X pins σ Q) X.xe s
noncomputable def CallR (X:Cx) (f:Value) (r:List V→Hp→VK→Prop):Prop:=
 ∀ (pins:List (Addr × Obj)) (s:Shared) (σ:St) (H:Hp) (xs:List V) (us:List Value) (Q:VK),Inv X pins σ H s→Vals xs us→r xs H Q →
  wpAny (model X.prog X.w) X.A (call f us) (EP X pins σ Q) X.xe s
noncomputable def aFK (X:Cx) (r:V→Hp→(Bool→Hp→Prop)→Prop):Prop:=
 ∀ (pins:List (Addr × Obj)) (s:Shared) (σ:St) (H:Hp) (x:V) (v:Value) (Q:Bool→Hp→Prop),Inv X pins σ H s→RelV x v→r x H Q →
  wpAny (model X.prog X.w) X.A (truthy v) (TP X pins σ Q) X.xe s
noncomputable def tOp (r:R2) (ta tb:TE):TE:=fun σ H Q=>ta σ H fun x H1=>tb σ H1 fun y H2=>r x y H2 Q
noncomputable def tUn (r:V→Hp→VK→Prop) (ta:TE):TE:=fun σ H Q=>ta σ H fun x H1=>r x H1 Q
noncomputable def rI (C:Int→Int→Prop) (g:Int→Int→V):R2:=fun x y H Q=>∃ i j,x = .int i∧y = .int j∧C i j∧Q (g i j) H
inductive aFs (g:Int→Int→V) (x y:V) (H:Hp) (Q:VK):Prop
 | mk (i j:Int) (hx:x = .int i) (hy:y = .int j) (q:Q (g i j) H):aFs g x y H Q
noncomputable def rI0 (g:Int→Int→V):R2:=fun x y H Q=>aFs g x y H Q
noncomputable def rU (g:Int→V):V→Hp→VK→Prop:=fun x H Q=>∃ i,x = .int i∧Q (g i) H
section
variable {X:Cx}{a b c:Expr}{ta tb tc:TE}{pos:Pos}
theorem aFb (ha:PE X a ta)(hb:PE X b tb){pins:List (Addr × Obj)}{s:Shared}{σ:St}{H:Hp}{R:V→V→Hp→Prop}(I:Inv X pins σ H s)
  (h:ta σ H fun x H1=>tb σ H1 fun y H2=>R x y H2) {Q:Value→Shared→Prop} {f:Value→Value→Sem Value}
  (hf:∀ v u s2 x y H2,Inv X pins σ H2 s2→RelV x v→RelV y u→R x y H2→wpAny (model X.prog X.w) X.A (f v u) Q X.xe s2) :
  wpAny (model X.prog X.w) X.A (eval a X.env) (fun v s₁=>wpAny (model X.prog X.w) X.A (eval b X.env) (fun u s₂=>wpAny (model X.prog X.w) X.A (f v u) Q X.xe s₂) X.xe s₁) X.xe s:=by
 refine thn (ha pins s σ H _ I h) fun v s1 ⟨x,H1,I1,r1,q1⟩=>?_
 refine thn (hb pins s1 σ H1 _ I1 q1) fun u s2 ⟨y,H2,I2,r2,q2⟩=>?_
 exact hf v u s2 x y H2 I2 r1 r2 q2
theorem bK {op:Operator}{r:R2}(ho:OpR X (binaryOp op) r)(ha:PE X a ta)(hb:PE X b tb):PE X (.BinOp a op b pos) (tOp r ta tb):=by
 intro pins s σ H Q I h
 exact wpAny_BinOp (aFb ha hb I h fun v u s2 x y H2 I2 rx ry q=>ho pins s2 σ H2 x y v u Q I2 rx ry q)
theorem tD {op:UnaryOp}{r:V→Hp→VK→Prop}(ho:UnR X (unaryOp op) r)(ha:PE X a ta):PE X (.UnaryOp op a pos) (tUn r ta):=by
 intro pins s σ H Q I h
 exact UnaryOp_ (thn (ha pins s σ H _ I h) fun v s1 ⟨x,H1,I1,r1,q1⟩=>ho pins s1 σ H1 x v Q I1 r1 q1)
theorem opI {f:Value→Value→Sem Value}{C:Int→Int→Prop}{g:Int→Int→Int}
  (rule:∀ (i j:Int) (t u:Tok) (s:Shared) (Q:Value→Shared→Prop) (E:Value→Shared→Prop),C i j→Q (.int (g i j) s.toks) { s with toks:=s.toks+1 }→wpAny (model X.prog X.w) X.A (f (.int i t) (.int j u)) Q E s) :
  OpR X f (rI C fun i j => .int (g i j)):=by
 intro pins s σ H x y v u Q I rx ry h
 obtain ⟨i,j,rfl,rfl,hc,q⟩:=h
 obtain ⟨t,rfl⟩:=rx
 obtain ⟨t',rfl⟩:=ry
 exact rule i j t t' s _ _ hc ⟨.int (g i j),H,I.tok _,⟨_,rfl⟩,q⟩
theorem aFf {f:Value→Value→Sem Value}{g:Int→Int→Int}
  (rule:∀ (i j:Int) (t u:Tok) (s:Shared) (Q:Value→Shared→Prop) (E:Value→Shared→Prop),Q (.int (g i j) s.toks) { s with toks:=s.toks+1 }→wpAny (model X.prog X.w) X.A (f (.int i t) (.int j u)) Q E s) :
  OpR X f (rI0 fun i j => .int (g i j)):=by
 intro pins s σ H x y v u Q I rx ry h
 obtain ⟨i,j,rfl,rfl,q⟩:=h
 obtain ⟨t,rfl⟩:=rx
 obtain ⟨t',rfl⟩:=ry
 exact rule i j t t' s _ _ ⟨.int (g i j),H,I.tok _,⟨_,rfl⟩,q⟩
theorem aEo {f:Value→Value→Sem Value}{g:Int→Int→Bool}
  (rule:∀ (i j:Int) (t u:Tok) (s:Shared) (Q:Value→Shared→Prop) (E:Value→Shared→Prop),Q (.bool (g i j)) s→wpAny (model X.prog X.w) X.A (f (.int i t) (.int j u)) Q E s) :
  OpR X f (rI0 fun i j => .bl (g i j)):=by
 intro pins s σ H x y v u Q I rx ry h
 obtain ⟨i,j,rfl,rfl,q⟩:=h
 obtain ⟨t,rfl⟩:=rx
 obtain ⟨t',rfl⟩:=ry
 exact rule i j t t' s _ _ ⟨.bl (g i j),H,I,rfl,q⟩
noncomputable def aFg (i j:Int):Prop:=0<j∧j<1073741824
noncomputable def aFi (i j:Int):Prop:=0≤j∧j≤1000000∧i.natAbs<2 ^ 64
noncomputable def CMul (i j:Int):Prop:=(-(2 ^ 64)<i∧i<2 ^ 64)∨(-(2 ^ 64)<j∧j<2 ^ 64)
theorem CMul.ok {i j:Int}(h:CMul i j):IntMulOk i j:=by
 rcases h with ⟨h1,h2⟩ | ⟨h1,h2⟩
 ·exact .of_left (intBits_le_64 h1 h2)
 ·exact .of_right (intBits_le_64 h1 h2)
theorem aDc:OpR X (binaryOp .Add) (rI0 fun i j => .int (i+j)):=aFf fun _ _ _ _ _ _ _ q=>add_int q
theorem aDj:OpR X (binaryOp .Sub) (rI0 fun i j => .int (i - j)):=aFf fun _ _ _ _ _ _ _ q=>sub_int q
theorem aCY:OpR X (binaryOp .Mult) (rI CMul fun i j => .int (i*j)):=opI fun _ _ _ _ _ _ _ hc q=>mul_int q hc.ok
theorem aBG:OpR X (binaryOp .FloorDiv) (rI aFg fun i j => .int (i / j)):=opI fun i j _ _ _ _ _ hc q=>by
 have h1:(0:Int)<j:=hc.1
 have h2:j<1073741824:=hc.2
 exact floordiv_int (by omega) (by rw [Int.fdiv_eq_ediv_of_nonneg i (by omega)];exact q) (.inl (PyProof.noPylong_small (by omega)))
theorem lO:OpR X (binaryOp .Mod) (rI (fun _ j=>0<j) fun i j => .int (i % j)):=opI fun i j _ _ _ _ _ hc q=>by
 have h1:(0:Int)<j:=hc
 exact mod_int' (by omega) (by rw [Int.fmod_eq_emod_of_nonneg i (by omega)];exact q)
theorem aDN:OpR X (binaryOp .Pow) (rI aFi fun i j => .int (i ^ j.toNat)):=opI fun _ _ _ _ _ _ _ hc q=>pow_int_small hc.1 hc.2.1 hc.2.2 q
theorem unI {f:Value→Sem Value}{g:Int→Int}
  (rule:∀ (i:Int) (t:Tok) (s:Shared) (Q:Value→Shared→Prop) (E:Value→Shared→Prop),Q (.int (g i) s.toks) { s with toks:=s.toks+1 }→wpAny (model X.prog X.w) X.A (f (.int i t)) Q E s) :
  UnR X f (rU fun i => .int (g i)):=by
 intro pins s σ H x v Q I rx h
 obtain ⟨i,rfl,q⟩:=h
 obtain ⟨t,rfl⟩:=rx
 exact rule i t s _ _ ⟨.int (g i),H,I.tok _,⟨_,rfl⟩,q⟩
theorem mD:UnR X (unaryOp .USub) (rU fun i => .int (-i)):=unI fun _ _ _ _ _ q=>neg_int q
end
section
variable {X:Cx}{a b c:Expr}{ta tb tc:TE}{pos:Pos}
theorem tV {pins:List (Addr × Obj)}{σ:St}{H:Hp}{s:Shared}{Q:VK}{k k':Bool}(I:Inv X pins σ H s)(q:Q (.bl k) H)(e:k=k'):EP X pins σ Q (.bool k') s:=by
 subst e
 exact ⟨.bl k,H,I,rfl,q⟩
theorem qX:OpR X (compareOp .Lt) (rI0 fun i j => .bl (decide (i<j))):=aEo fun _ _ _ _ _ _ _ q=>lt_int q
theorem aET:OpR X (compareOp .LtE) (rI0 fun i j => .bl (decide (i≤j))):=aEo fun _ _ _ _ _ _ _ q=>le_int q
theorem aCX:OpR X (compareOp .Gt) (rI0 fun i j => .bl (decide (j<i))):=aEo fun _ _ _ _ _ _ _ q=>gt_int q
theorem aEH:OpR X (compareOp .GtE) (rI0 fun i j => .bl (decide (j≤i))):=aEo fun _ _ _ _ _ _ _ q=>ge_int q
theorem aDx:OpR X (compareOp .Is) (fun x y H Q=>y = .non∧Q (.bl (decide (x = .non))) H):=by
 intro pins s σ H x y v u Q I rx ry h
 obtain ⟨rfl,q⟩:=h
 cases ry
 refine is_none_gen (tV I q ?_)
 cases x <;> first
  | (cases rx;rfl)
  | (obtain ⟨t,rfl⟩:=rx;rfl)
theorem aCc:OpR X (compareOp .IsNot) (fun x y H Q=>y = .non∧Q (.bl (!decide (x = .non))) H):=by
 intro pins s σ H x y v u Q I rx ry h
 obtain ⟨rfl,q⟩:=h
 cases ry
 refine isnot_none_gen (tV I q ?_)
 cases x <;> first
  | (cases rx;rfl)
  | (obtain ⟨t,rfl⟩:=rx;rfl)
theorem OpR.or {f:Value→Value→Sem Value}{r r':R2}(h:OpR X f r)(h':OpR X f r'):OpR X f (fun x y H Q=>r x y H Q∨r' x y H Q):=by
 intro pins s σ H x y v u Q I rx ry q
 rcases q with q | q
 ·exact h pins s σ H x y v u Q I rx ry q
 ·exact h' pins s σ H x y v u Q I rx ry q
theorem bQ (b:Expr){op:CmpOp}(h:op ≠ .In:=by decide)(h2:op ≠ .NotIn:=by decide):behindInMarks op b=false:=by
 have e1:(op == CmpOp.In)=false:=by cases op <;> first | rfl | exact absurd rfl h
 have e2:(op == CmpOp.NotIn)=false:=by cases op <;> first | rfl | exact absurd rfl h2
 cases b <;> simp [behindInMarks,e1,e2]
theorem dD {op:CmpOp}{r:R2}(ho:OpR X (compareOp op) r)(ha:PE X a ta)(hb:PE X b tb)(hm:behindInMarks op b=false):PE X (.Compare a [op] [b] pos) (tOp r ta tb):=by
 intro pins s σ H Q I h
 exact wpAny_Compare1 (aFb ha hb I h fun v u s2 x y H2 I2 rx ry q=>ho pins s2 σ H2 x y v u Q I2 rx ry q) hm
inductive TBP (x:V) (H:Hp) (Q:Bool→Hp→Prop):Prop
 | mk (k:Bool) (e:x = .bl k) (q:Q k H):TBP x H Q
noncomputable def eY (t:TE):TT:=fun σ H Q=>t σ H fun x H'=>TBP x H' Q
theorem cH {op:CmpOp}{r:R2}(ho:OpR X (compareOp op) r)(ha:PE X a ta)(hb:PE X b tb)(hm:behindInMarks op b=false):PT X (.Compare a [op] [b] pos) (eY (tOp r ta tb)):=by
 intro pins s σ H Q I h
 refine wpAny_isTrue_Compare1 (thn (ha pins s σ H _ I h) fun v s1 ⟨x,H1,I1,r1,q1⟩=>thn (hb pins s1 σ H1 _ I1 q1) fun u s2 ⟨y,H2,I2,r2,q2⟩=>
  thn (ho pins s2 σ H2 x y v u _ I2 r1 r2 q2) fun c s3 ⟨z,H3,I3,r3,k,e,q3⟩=>?_) hm
 subst e
 cases r3
 exact wpAny_truthy_bool ⟨H3,I3,q3⟩
noncomputable def aDQ (K:PySem.W.Frag) (x:V) (H:Hp) (k:Bool):Prop:=
 match x with
 | .non=>k=false
 | .bl b=>k=b
 | .int i=>k=(i != 0)
 | .str y=>y.length≤sizeLine∧k=((y.length:Int) != 0)
 | .byt y=>y.size≤sizeLine∧k=((y.size:Int) != 0)
 | .ref p=>(∃ xs,SqL K H p xs∧k = !xs.isEmpty)∨(∃ xs,SqT K H p xs∧k = !xs.isEmpty)∨∃ kvs,H p=some (.dK kvs)∧k = !kvs.isEmpty
 | _=>False
theorem vG {κ:Type}{kvs:List (κ × V)}{vs:List (κ × Value)}(r:KV kvs vs):(!vs.isEmpty) = !kvs.isEmpty:=by
 cases r <;> rfl
theorem nW {xs:List V}{its:List Value}(r:Vals xs its):(!its.toArray.isEmpty) = !xs.isEmpty:=by
 cases r <;> simp
theorem rE:(sizeLine:Nat)<2 ^ 63:=by rw [sizeLine_eq];decide
theorem aBi:aFK X (fun x H Q=>∃ k,aDQ X.K x H k∧Q k H):=by
 intro pins s σ H x v Q I rx h
 obtain ⟨k,e,q⟩:=h
 have hl:=rE
 have hs:sizeLine=16777216:=sizeLine_eq
 cases x with
 | non=>
  cases rx
  have e':k=false:=e
  subst e'
  exact truthy_none ⟨H,I,q⟩
 | bl b=>
  cases rx
  have e':k=b:=e
  subst e'
  exact wpAny_truthy_bool ⟨H,I,q⟩
 | int i=>
  obtain ⟨t,rfl⟩:=rx
  have e':k=(i != 0):=e
  subst e'
  exact PySem.P.truthy_int ⟨H,I,q⟩
 | str y=>
  obtain ⟨t,rfl⟩:=rx
  obtain ⟨hy,e'⟩:y.length≤sizeLine∧k=((y.length:Int) != 0):=e
  subst e'
  exact PySem.P.truthy_str (by omega) ⟨H,I.tok _,q⟩
 | byt y=>
  obtain ⟨t,rfl⟩:=rx
  obtain ⟨hy,e'⟩:y.size≤sizeLine∧k=((y.size:Int) != 0):=e
  subst e'
  exact PySem.W.truthy_bytes (by omega) ⟨H,I.tok _,q⟩
 | ref p=>
  cases rx
  have e':(∃ xs,SqL X.K H p xs∧k = !xs.isEmpty)∨(∃ xs,SqT X.K H p xs∧k = !xs.isEmpty)∨∃ kvs,H p=some (.dK kvs)∧k = !kvs.isEmpty:=e
  rcases e' with ⟨xs,hx,e'⟩ | ⟨xs,hx,e'⟩ | ⟨kvs,hx,e'⟩
  ·subst e'
   obtain ⟨its,r,pl,hz⟩:=I.list hx
   have hlen:=r.length
   exact wpAny_truthy_list pl.isList (by simp only [List.size_toArray];omega) ⟨H,I.tok _,by rw [nW r];exact q⟩
  ·subst e'
   obtain ⟨its,r,pl,hz⟩:=I.tuple hx
   have hlen:=r.length
   exact truthy_tuple pl (by simp only [List.size_toArray];omega) ⟨H,I.tok _,by rw [nW r];exact q⟩
  ·subst e'
   obtain ⟨hz,hS,vs,r,m⟩:kvs.length≤sizeLine∧(p == sysModules)=false∧∃ vs,KV kvs vs∧s.heap.DictOf (sS X.prog X.w) p vs:=I.hok p _ hx
   have hlen:kvs.length=vs.length:=Paired.length r
   exact wpAny_truthy_dict hS m (by omega) ⟨H,I.tok _,by rw [vG r];exact q⟩
 | _=>exact (show False from e).elim
theorem aAJ (ha:PE X a ta)(he:∀ whole,isTrue a X.env whole=(do let v ← whole;standAt a.pos;holding [v] (truthy v))) :
  PT X a (fun σ H Q=>ta σ H fun x H'=>∃ k,aDQ X.K x H' k∧Q k H'):=by
 intro pins s σ H Q I h
 exact isTrue_plain (thn (ha pins s σ H _ I h) fun v s1 ⟨x,H1,I1,r1,q1⟩=>aBi pins s1 σ H1 x v Q I1 r1 q1) (he _)
theorem vA:OpR X (binaryOp .Add) (fun x y H Q=>∃ i j,x = .str i∧y = .str j∧i.length+j.length≤sizeLine∧Q (.str (i++j)) H):=by
 intro pins s σ H x y v u Q I rx ry h
 obtain ⟨i,j,rfl,rfl,hz,q⟩:=h
 obtain ⟨t,rfl⟩:=rx
 obtain ⟨t',rfl⟩:=ry
 exact add_str (fun t' tk=>⟨.str (i++j),H,I.tok _,⟨_,rfl⟩,q⟩) hz
theorem pB {x:V}{us:List Value}(r:Vals [x] us):∃ u,us=[u]∧RelV x u:=by
 cases r with
 | cons r1 r2=>cases r2;exact ⟨_,rfl,r1⟩
theorem aEE {x y:V}{us:List Value}(r:Vals [x,y] us):∃ u w',us=[u,w']∧RelV x u∧RelV y w':=by
 cases r with
 | cons r1 r2=>
  cases r2 with
  | cons r3 r4=>cases r4;exact ⟨_,_,rfl,r1,r3⟩
theorem wY:CallR X (.type "int") (fun xs H Q=>(∃ i,xs=[.int i]∧Q (.int i) H)∨∃ k,xs=[.bl k]∧Q (.int (if k then 1 else 0)) H):=by
 intro pins s σ H xs us Q I r h
 rcases h with ⟨i,rfl,q⟩ | ⟨k,rfl,q⟩
 ·obtain ⟨u,rfl,t,rfl⟩:=pB r
  exact call_int_int ⟨.int i,H,I,⟨_,rfl⟩,q⟩
 ·obtain ⟨u,rfl,r1⟩:=pB r
  cases r1
  exact call_int_bool ⟨.int (if k then 1 else 0),H,I.tok _,⟨_,rfl⟩,q⟩
end
end L2
namespace L2
open PySem PySem.Spec PyProof.Rows
section
variable {prog:Program}{w:World}{A:Around}{E:Value→Shared→Prop}{s:Shared}{K:PySem.W.Frag}{x dx C f:Addr}{mA:Str→Option Value}{name:Str}{v:Value}
end
section
variable {P:Program}{w:World}{H H':Hp}{h h':Heap}{a C dx:Addr}{fs fs':List (Str × V)}
end
section
variable {X:Cx}{pins:List (Addr × Obj)}{σ:St}{H:Hp}{s:Shared}{a C dx:Addr}{fs:List (Str × V)}{f:Str}{v:V}{A:Around}{E:Value→Shared→Prop}
end
section
variable {X:Cx}{o e value:Expr}{f:Str}{pos pos' tpos:Pos}{ta tv:TE}
end
section
variable {X:Cx}{pins:List (Addr × Obj)}{σ:St}{H:Hp}{s:Shared}{A:Around}{E:Value→Shared→Prop}{Q:Value→Shared→Prop}{c:Value}{b:Bool}
end
end L2
namespace L2
open PySem PySem.Spec PyProof.Rows
structure Room (k:Nat)(A:Around):Prop where
 hd:A.handled=none
 dp:A.depth+3*k+5<recursionLimit
 un:A.units+16*k+200<cLine
 gd:A.guards=some []
theorem Room.mono {j k:Nat}{A:Around}(r:Room k A)(h:j≤k):Room j A:=⟨r.hd,by have:=r.dp;omega,by have:=r.un;omega,r.gd⟩
theorem Room.deeper {k:Nat}{A:Around}(r:Room (k+1) A)(env:Env):Room k (A.deeper env):=
 ⟨r.hd,by have:=r.dp;show A.depth+1+3*k+5<_;omega,by have:=r.un;show A.units+3+16*k+200<_;omega,r.gd⟩
theorem Room.in1 {k:Nat}{A:Around}(r:Room (k+1) A):Room k A.in1:=
 ⟨r.hd,by have:=r.dp;show A.depth+3*k+5<_;omega,by have:=r.un;show A.units+1+16*k+200<_;omega,r.gd⟩
theorem Room.depth {k:Nat}{A:Around}(r:Room k A):A.depth<recursionLimit:=by have:=r.dp;omega
theorem Room.units {k:Nat}{A:Around}(r:Room k A):A.units+64<cLine:=by have:=r.un;omega
noncomputable def aQ:TA:=fun _ H Q=>Q [] H
noncomputable def aB (ta:TE) (tr:TA):TA:=fun σ H Q=>ta σ H fun x H1=>tr σ H1 fun xs H2=>Q (x :: xs) H2
section
variable {X:Cx}{e:Expr}{es:List Expr}{te:TE}{t:TA}{pos:Pos}
theorem aE:PA X [] aQ:=fun _ _ _ _ H Q I h=>Calls.spliced_nil ⟨[],H,I, .nil,h⟩
theorem cP (ha:PE X e te)(hr:PA X es t)(hs:starEach (e :: es) X.env=(false,eval e X.env) :: starEach es X.env:=by rfl):PA X (e :: es) (aB te t):=by
 intro pos pins s σ H Q I h
 rw [hs]
 show wpAny _ _ (spliced ((false,eval e X.env) :: backTo pos (starEach es X.env))) _ _ s
 refine Calls.spliced_cons (thn (ha pins s σ H _ I h) fun u s1 ⟨x,H1,I1,r1,q1⟩=>?_)
 exact thn (hr pos pins s1 σ H1 _ I1 q1) fun us s2 ⟨xs,H2,I2,r2,q2⟩=>⟨x :: xs,H2,I2, .cons r1 r2,q2⟩
noncomputable def rR (t:TA):TE:=fun σ H Q=>t σ H fun xs H1=>xs.length≤sizeLine∧∀ p,H1 p=none→Q (.ref p) (upd H1 p (.tup xs))
noncomputable def rT (t:TA):TE:=fun σ H Q=>t σ H fun xs H1=>xs.length≤sizeLine∧∀ p,H1 p=none→Q (.ref p) (upd H1 p (.lst xs))
theorem eC {x1}(h:PA X es t):PE X (.Tuple es x1 pos) (rR t):=by
 intro pins s σ H Q I hq
 refine wpAny_Tuple_spliced (thn (h pos pins s σ H _ I hq) fun us s1 ⟨xs,H1,I1,r,z,q⟩=>⟨by rw [← r.length];exact z,?_⟩)
 have hf:H1 s1.heap.objs.size=none:=I1.hok.fresh (Nat.le_refl _)
 refine ⟨.ref s1.heap.objs.size,upd H1 s1.heap.objs.size (.tup xs),I1.laid (t':=s1.toks) (fun b u e=>Heap.get?_push_of_some _ e) (Nat.le_refl _) ?_,rfl,q _ hf⟩
 exact ⟨z,us,r,TupN.new _ _⟩
theorem fT (h:PA X es t):PE X (.List es pos) (rT t):=by
 intro pins s σ H Q I hq
 refine wpAny_List_spliced (thn (h pos pins s σ H _ I hq) fun us s1 ⟨xs,H1,I1,r,z,q⟩=>⟨by rw [← r.length];exact z,?_⟩)
 have hf:H1 s1.heap.objs.size=none:=I1.hok.fresh (Nat.le_refl _)
 refine ⟨.ref s1.heap.objs.size,upd H1 s1.heap.objs.size (.lst xs),I1.laid (t':=s1.toks) (fun b u e=>Heap.get?_push_of_some _ e) (Nat.le_refl _) ?_,rfl,q _ hf⟩
 exact ⟨z,us,0,r,Heap.get?_push_size _ rfl⟩
end
noncomputable abbrev Sp:=List V→Hp→VK→XK→Prop
noncomputable abbrev CXT:=List Env→Hp→Shared→XK→Value→Shared→Prop
structure aCg (P:Program)(w:World)(K:PySem.W.Frag)(mg:Str→Option Value)(base:Heap)(A:Around)(outer:List Env)(s:Shared)(H:Hp):Prop where
 frames:A.frames=some outer
 mod:Mod K mg base
 bs:∀ b o,base.get? b=some o→s.heap.get? b=some o∧H b=none
 bsz:base.objs.size≤s.heap.objs.size
 funs:s.heap.FunFrames base outer
 frf:∀ b∈frs outer,H b=none
 hok:HOk P w H s.heap
 bare:AllBare s.gens
noncomputable def CE (outer:List Env) (P:Program) (w:World) (H:Hp) (s:Shared) (Q:VK) (u:Value) (s':Shared):Prop:=
 ∃ v H',s'.os=s.os∧AllBare s'.gens∧Un (frs outer) [] H H' s.heap s'.heap∧HOk P w H' s'.heap∧RelV v u∧Q v H'
noncomputable def CR (CX:CXT) (outer:List Env) (P:Program) (w:World) (H:Hp) (s:Shared) (Q:VK) (E:XK) (r:Result) (s':Shared):Prop:=
 match r with
 | .ok (.ret u)=>CE outer P w H s Q u s'
 | .ok _=>False
 | .error e=>CX outer H s E e s'
structure FnOk (P:Program)(w:World)(K:PySem.W.Frag)(mg:Str→Option Value)(base:Heap)(CX:CXT)(k:Nat)(f:Addr)(fd:FuncData)(ps:List Str)(sp:Sp):Prop where
 len:∀ vs H Q E,sp vs H Q E→vs.length=ps.length
 run:∀ (A:Around) (outer:List Env) (s:Shared) (H:Hp) (args:Args) (us:List Value) (vs:List V) (Q:VK) (E:XK),Room k A→aCg P w K mg base A outer s H→BindsTo s fd args (ps.zip us)→Vals vs us→sp vs H Q E →
  codeAny (model P w) A (.call (.ref f) args) (CR CX outer P w H s Q E) s
theorem FnOk.mono {P:Program}{w:World}{K:PySem.W.Frag}{mg:Str→Option Value}{base:Heap}{CX:CXT}{j k:Nat}{f:Addr}{fd:FuncData}{ps:List Str}{sp:Sp}(F:FnOk P w K mg base CX j f fd ps sp)(h:j≤k) :
  FnOk P w K mg base CX k f fd ps sp:=⟨F.len,fun A outer s H args us vs Q E hr=>F.run A outer s H args us vs Q E (hr.mono h)⟩
section
variable {X:Cx}{pins:List (Addr × Obj)}{σ:St}{H:Hp}{s s':Shared}
theorem Inv.env0 (I:Inv X pins σ H s):aCg X.prog X.w X.K X.mg X.base X.A X.stack s H:=
 ⟨I.ok.frames,I.ok.mod,I.bs,Nat.le_trans I.ok.bsz I.sz,I.stack,I.stkFree,I.hok,I.bare⟩
theorem Inv.after {Q:VK}{u:Value}(I:Inv X pins σ H s)(h:CE X.stack X.prog X.w H s Q u s'):EP X pins σ Q u s':=by
 obtain ⟨v,H',os,bare,un,hok,r,q⟩:=h
 obtain ⟨hh,g,d,t,os'⟩:=s'
 obtain rfl:os'=s.os:=os
 exact ⟨v,H',I.call (h':=hh) (g':=g) (d':=d) (t':=t) (ch:=[]) un hok bare (fun b z=>absurd z (by simp)),r,q⟩
end
noncomputable def aW (sp:Sp) (dvs:List V) (E:XK) (t:TA):TE:=fun σ H Q=>t σ H fun vs H1=>sp (vs++dvs) H1 Q E
noncomputable def Binds (K:PySem.W.Frag) (fd:FuncData) (ps:List Str) (ds:List Value):Prop:=
 ∀ (s:Shared) (us:List Value),K.In s.heap→(us++ds).length=ps.length→BindsTo s fd ⟨us,[]⟩ (ps.zip (us++ds))
theorem Binds.all {K:PySem.W.Frag}{fd:FuncData}{ps:List Str}(h:∀ us:List Value,us.length=ps.length→bindArgs fd ⟨us,[]⟩=pure (ps.zip us)):Binds K fd ps []:=fun s us _ hl=>by
 rw [List.append_nil] at hl ⊢
 exact .of_eq (h us hl)
noncomputable def vY (CX:CXT) (X:Cx) (E:XK):Prop:=∀ (pins:List (Addr × Obj)) (σ:St) (H:Hp) (s:Shared) (e:Value) (s':Shared),Inv X pins σ H s→CX X.stack H s E e s'→X.xe e s'
section
variable {X:Cx}{CX:CXT}{k:Nat}{f C:Addr}{fd:FuncData}{ps:List Str}{sp:Sp}{dvs:List V}{ds:List Value}{E:XK}{x m:Str}{p pos apos:Pos}{e o:Expr}{es:List Expr}{ta:TE}{t:TA}
theorem aEa {pins:List (Addr × Obj)}{σ:St}{H:Hp}{s:Shared}{Q:VK}{us:List Value}{vs:List V}(F:FnOk X.prog X.w X.K X.mg X.base CX k f fd ps sp)(hr:Room k X.A)(hb:Binds X.K fd ps ds)(hd:Vals dvs ds)(hx:vY CX X E)
  (I:Inv X pins σ H s) (r:Vals vs us) (h:sp (vs++dvs) H Q E):wpAny (model X.prog X.w) X.A (call (.ref f) us) (EP X pins σ Q) X.xe s:=by
 have r2:Vals (vs++dvs) (us++ds):=r.append hd
 have hl:(us++ds).length=ps.length:=by rw [← r2.length];exact F.len _ _ _ _ h
 refine wpAny_call (codeAny_mono (F.run X.A X.stack s H ⟨us,[]⟩ (us++ds) (vs++dvs) Q E hr I.env0 (hb s us I.kIn hl) r2 h) fun r s' hq=>?_)
 cases r with
 | error e=>exact hx pins σ H s e s' I hq
 | ok fl=>
  cases fl with
  | ret u=>exact I.after hq
  | next=>exact False.elim hq
  | brk=>exact False.elim hq
  | cont=>exact False.elim hq
theorem aBQ (F:FnOk X.prog X.w X.K X.mg X.base CX k f fd ps sp)(hr:Room k X.A)(hg:Gl X x)(hm:X.mg x=some (.ref f))(hk:PySem.W.keepIn X.K (.ref f)=true)(hb:Binds X.K fd ps ds)(hd:Vals dvs ds)(hx:vY CX X E)
  (ha:PA X (e :: es) t) (hdb:(x == ("__debug__" : Str))=false:=by decide) (he:starEach (e :: es) X.env=(false,eval e X.env) :: starEach es X.env:=by rfl) (hpl:(backTo pos (starEach es X.env)).any (·.1)=false:=by rfl) :
  PE X (.Call (.Name x p) (e :: es) [] pos) (aW sp dvs E t):=by
 intro pins s σ H Q I h
 refine wpAny_Call_Name_kw (wH I hg hm ?_ hdb)
 refine PySem.W.callWith_K (h₀:=X.base) I.ok.mod.kin hk (thn (ha pos pins s σ H _ I h) fun us s1 ⟨vs,H1,I1,r,q⟩=>⟨I1.kIn,?_⟩) he hpl
 exact aEa F hr hb hd hx I1 r q
end
section
variable {X:Cx}{CX:CXT}{k:Nat}{f C:Addr}{fd:FuncData}{ps ks:List Str}{sp:Sp}{E:XK}{x m:Str}{p pos apos kpos:Pos}{e o:Expr}{es:List Expr}{kws:List Keyword}{te ta:TE}{t tk:TA}{nm:Option Str}
variable {g:List Value→List Value→List Value}{gV:List V→List V→List V}
end
structure bA (N P:List Str)(sc:Scope):Prop where
 kind:sc.kind = .function
 co:sc.isCoroutine=false
 gen:sc.isGenerator=false
 nd:N.Nodup
 pre:N.take P.length=P
 par:∀ x∈P,sc.names.lookup x=some .local∨sc.names.lookup x=some .cell
 nofree:∀ y∈sc.names,y.2 ≠ .free
theorem qB {kindOf:Str→Option NameKind}{x:Str}:∀ {binds:List (Str × Value)} {m:Str→Option Value},(∀ v,(x,v)∉binds)→bindL kindOf binds m x=m x
 | [],_,_=>rfl
 | (n,v) :: r,m,h=>by
  unfold bindL
  rw [qB fun w hw=>h w (List.mem_cons_of_mem _ hw)]
  split
  ·have:x≠n:=by rintro rfl;exact h v List.mem_cons_self
   simp [this]
  ·rfl
theorem rG {kindOf:Str→Option NameKind}{x:Str}:∀ {binds:List (Str × Value)} {m:Str→Option Value},(∀ v,(x,v)∉binds)→bindC kindOf binds m x=m x
 | [],_,_=>rfl
 | (n,v) :: r,m,h=>by
  unfold bindC
  rw [rG fun w hw=>h w (List.mem_cons_of_mem _ hw)]
  split
  ·rfl
  ·have:x≠n:=by rintro rfl;exact h v List.mem_cons_self
   simp [this]
theorem qR {kindOf:Str→Option NameKind}{x:Str}{v:Value}:∀ {P:List Str} {vs:List Value} {i:Nat} {m:Str→Option Value},P.Nodup→P[i]?=some x→vs[i]?=some v→kindOf x=some .local →
  bindL kindOf (P.zip vs) m x=some v
 | [],_,_,_,_,h,_,_=>by simp at h
 | _ :: _,[],_,_,_,_,h,_=>by simp at h
 | p :: P,w :: vs,0,m,nd,h1,h2,hk=>by
  simp at h1 h2;subst h1;subst h2
  show bindL kindOf ((p,w) :: P.zip vs) m p=_
  unfold bindL
  rw [qB fun v hv=>(List.nodup_cons.mp nd).1 (List.of_mem_zip hv).1,if_pos hk]
  simp
 | p :: P,w :: vs,i+1,m,nd,h1,h2,hk=>by
  show bindL kindOf ((p,w) :: P.zip vs) m x=_
  unfold bindL
  exact qR (i:=i) (List.nodup_cons.mp nd).2 (by simpa using h1) (by simpa using h2) hk
theorem qG {kindOf:Str→Option NameKind}{x:Str}{v:Value}:∀ {P:List Str} {vs:List Value} {i:Nat} {m:Str→Option Value},P.Nodup→P[i]?=some x→vs[i]?=some v→kindOf x≠some .local →
  bindC kindOf (P.zip vs) m x=some v
 | [],_,_,_,_,h,_,_=>by simp at h
 | _ :: _,[],_,_,_,_,h,_=>by simp at h
 | p :: P,w :: vs,0,m,nd,h1,h2,hk=>by
  simp at h1 h2;subst h1;subst h2
  show bindC kindOf ((p,w) :: P.zip vs) m p=_
  unfold bindC
  rw [rG fun v hv=>(List.nodup_cons.mp nd).1 (List.of_mem_zip hv).1,if_neg hk]
  simp
 | p :: P,w :: vs,i+1,m,nd,h1,h2,hk=>by
  show bindC kindOf ((p,w) :: P.zip vs) m x=_
  unfold bindC
  exact qG (i:=i) (List.nodup_cons.mp nd).2 (by simpa using h1) (by simpa using h2) hk
noncomputable def bB (N:List Str) (vs:List V):St:=vs.map some++List.replicate (N.length - vs.length) none
noncomputable def aCp (CX:CXT) (P:Program) (w:World) (K:PySem.W.Frag) (mg:Str→Option Value) (base:Heap) (N:List Str) (qual:Str) (scope:Scope) (f:Addr) (cd:Value) (A:Around) (outer:List Env) (s:Shared) (H:Hp) (E:XK):Cx where
 prog:=P
 w:=w
 K:=K
 mg:=mg
 base:=base
 A:=A.deeper (envOfC qual scope s.heap.objs.size f cd)
 N:=N
 s₀:=s
 H₀:=H
 env:=envOfC qual scope s.heap.objs.size f cd
 outer:=outer
 stack:=envOfC qual scope s.heap.objs.size f cd :: outer
 ex:=[]
 calm:=true
 fn:=fun _=>true
 pn:=[]
 xe:=fun e s'=>wpAny (model P w) (A.deeper (envOfC qual scope s.heap.objs.size f cd)) (leaving (envOfC qual scope s.heap.objs.size f cd) e) (fun _ s''=>CX outer H s E e s'') (fun e' s''=>CX outer H s E e' s'') s'
theorem uG {sc:Scope}{n:Nat}{x:Str}(h:sc.names.lookup x=some .cell):∃ c,(cellsFrom n sc.names []).lookup x=some c:=by
 have q:=PySem.W.cellsFrom_some sc.names n [] (.inl h)
 exact Option.isSome_iff_exists.mp q
theorem xZ {CX:CXT}{P:Program}{w:World}{K:PySem.W.Frag}{mg:Str→Option Value}{base:Heap}{N ps:List Str}{qual:Str}{scope:Scope}{f:Addr}{cd:Value}{A:Around}{outer:List Env}{s s1:Shared}{H:Hp}{E:XK}{us:List Value}{vs:List V}
  (S:bA N ps scope) (hd:A.handled=none) (e0:aCg P w K mg base A outer s H) (hl:vs.length=ps.length) (r:Vals vs us)
  (x:InCallC s s.heap.objs.size (bindL (envOfC qual scope s.heap.objs.size f cd).kindOf (ps.zip us) fun _=>none) (cellsFrom (s.heap.objs.size+1) scope.names []) (bindC (envOfC qual scope s.heap.objs.size f cd).kindOf (ps.zip us) fun _=>none) s1) :
  Inv (aCp CX P w K mg base N qual scope f cd A outer s H E) [] (bB N vs) H s1:=by
 have hpl:ps.length≤N.length:=by have:=congrArg List.length S.pre;rw [List.length_take] at this;omega
 obtain ⟨h1,tk,rfl,hk⟩:=x.done
 have noA:∀ b:Addr,b∉(aCp CX P w K mg base N qual scope f cd A outer s H E).ex:=fun b z=>absurd (show b∈([]:List Addr) from z) (by simp)
 refine ⟨⟨e0.mod,S.kind,rfl,rfl,Nat.le_refl _,fun y z c h1 h2=>?_,fun y hy=>?_,fun y c _ h=>?_,fun _=>hd,Around.frames_deeper e0.frames, .inr ⟨rfl,rfl⟩,fun b z=>absurd z (noA b),e0.bs,e0.bsz,fun b _ _=>noA b,fun b z=>absurd z (noA b),e0.funs,e0.frf⟩,
  rfl,e0.bare,Un.kept hk,⟨_,x.toInCall.ns,fun i y v h1 h2 h3=>?_⟩,fun y c h=>⟨_,x.cell y c h⟩,e0.hok.fresh (Nat.le_refl _),fun y c h=>?_,fun p hp=>absurd (show p∈([]:List (Addr × Obj)) from hp) (by simp),e0.hok.kept hk,?_⟩
 ·exact name_of_addr x.apart (PySem.mem_of_lookup h1) (PySem.mem_of_lookup h2)
 ·have hy:scope.names.lookup y=some .cell∨scope.names.lookup y=some .free:=hy
  rcases hy with hy | hy
  ·exact uG hy
  ·exact absurd rfl (S.nofree _ (PySem.mem_of_lookup hy))
 ·exact Nat.le_of_lt (x.above y c (PySem.mem_of_lookup h))
 ·have hi:i<vs.length:=by
   unfold bB at h2
   by_cases hi:i<vs.length
   ·exact hi
   ·rw [List.getElem?_append_right (by simpa using hi)] at h2
    rw [List.getElem?_replicate] at h2
    split at h2 <;> cases h2
  have ha:vs[i]?=some v:=by
   unfold bB at h2
   rw [List.getElem?_append_left (by simpa using hi),List.getElem?_map] at h2
   cases e:vs[i]? with
   | none=>rw [e] at h2;cases h2
   | some a=>rw [e] at h2;cases h2;rfl
  obtain ⟨u,hu,rv⟩:=r.get ha
  have hp:ps[i]?=some y:=by
   rw [← S.pre,List.getElem?_take_of_lt (by omega)];exact h1
  have ndP:ps.Nodup:=by rw [← S.pre];exact S.nd.sublist (List.take_sublist _ _)
  refine ⟨u,rv,?_⟩
  rcases S.par y (List.mem_of_getElem? hp) with k | k
  ·exact .inl ⟨k,qR ndP hp hu k⟩
  ·obtain ⟨c,e⟩:=uG (n:=s.heap.objs.size+1) k
   refine .inr ⟨.inl k,c,e,?_⟩
   have q:=x.cell y c e
   rw [qG ndP hp hu (by show scope.names.lookup y≠_;rw [k];decide)] at q
   exact q
 ·exact e0.hok.fresh (Nat.le_of_lt (x.above y c (PySem.mem_of_lookup h)))
 ·unfold bB
  show _=N.length
  rw [List.length_append,List.length_map,List.length_replicate]
  omega
theorem aDs {CX:CXT}{P:Program}{w:World}{K:PySem.W.Frag}{mg:Str→Option Value}{base:Heap}{k:Nat}{f:Addr}{name qual:Str}{params:Arguments}{body:List Stmt}{scope:Scope}{dV kV doc pm cdv ct oc:Value}{an od:Option Addr}
  {osl:Array (Option Value)} {N ps:List Str} {sp:Sp} (lk:K.lookup f=some ⟨oc,od, .func (PySem.W.fnOf name qual params body scope dV kV doc pm an cdv ct),osl⟩) (hcd:PySem.W.codeIn K cdv qual=true) (S:bA N ps scope)
  (len:∀ vs H Q E,sp vs H Q E→vs.length=ps.length)
  (hbody:∀ (A:Around) (outer:List Env) (s:Shared) (H:Hp) (vs:List V) (Q:VK) (E:XK),Room k (A.deeper (envOfC qual scope s.heap.objs.size f cdv))→sp vs H Q E →
   ∃ t,PSs (aCp CX P w K mg base N qual scope f cdv A outer s H E) body t∧t { nx:=fun _ H'=>Q .non H',rt:=Q } (bB N vs) H) :
  FnOk P w K mg base CX (k+1) f (PySem.W.fnOf name qual params body scope dV kV doc pm an cdv ct) ps sp:=by
 refine ⟨len,fun A outer s H args us vs Q E hr e0 hb r hsp=>?_⟩
 have hl:=len _ _ _ _ hsp
 have KX:K.In s.heap:=e0.mod.kin.keeps fun b o e=>(e0.bs b o e).1
 have lim:s.heap.NoLimit:=e0.mod.nolimit.keeps fun b o e=>(e0.bs b o e).1
 have hkind:∀ y∈ps.zip us,scope.names.lookup y.1=some .local∨(scope.names.lookup y.1=some .cell∧((cellsFrom (s.heap.objs.size+1) scope.names []).lookup y.1).isSome=true):=fun ⟨n,v⟩ hy=>by
  rcases S.par n (List.of_mem_zip hy).1 with q | q
  ·exact .inl q
  ·exact .inr ⟨q,PySem.W.cellsFrom_some _ _ _ (.inl q)⟩
 refine codeAny_call_function hr.depth (KX _ _ lk) rfl S.co S.gen rfl (PySem.W.codeRec_of KX hcd) (hb _ _ _ _ ?_)
 refine wpAny_newFunctionEnv_cells S.kind hkind fun env he s1 x=>?_
 subst he
 refine ⟨lim.keeps x.toInCall.keep,codeAny_func ?_⟩
 obtain ⟨t,ht,hq⟩:=hbody A outer s H vs Q E (hr.deeper _) hsp
 have I:Inv (aCp CX P w K mg base N qual scope f cdv A outer s H E) [] (bB N vs) H s1:=xZ S hr.hd e0 hl r x
 refine wpAny_mono (ht [] s1 (bB N vs) H _ I hq) (fun fl s' hs=>?_) fun e s' hs=>hs
 have fin:∀ {σ':St} {H':Hp} {v:V} {u:Value},Inv (aCp CX P w K mg base N qual scope f cdv A outer s H E) [] σ' H' s'→RelV v u→Q v H'→CE outer P w H s Q u s':=
  fun {σ' H' v u} J rv q=>⟨v,H',J.os,J.bare,J.base,J.hok,rv,q⟩
 cases fl with
 | ret u=>
  obtain ⟨v,σ',H',J,rv,q⟩:=hs
  exact fin J rv q
 | next=>
  obtain ⟨σ',H',J,q⟩:=hs
  exact fin (v:=V.non) (u:=Value.none) J rfl q
 | brk=>
  obtain ⟨_,_,_,q⟩:=hs
  exact False.elim q
 | cont=>
  obtain ⟨_,_,_,q⟩:=hs
  exact False.elim q
end L2
namespace L2
open PySem PySem.Spec PyProof.Rows
section
variable {X:Cx}{x:Str}{p pos:Pos}{e:Expr}{es:List Expr}{t:TA}{id T:String}{r:List V→Hp→VK→Prop}
noncomputable def tCB (r:List V→Hp→VK→Prop) (t:TA):TE:=fun σ H Q=>t σ H fun vs H1=>r vs H1 Q
theorem aR (hc:CallR X (.builtin id) r)(hg:Gl X x)(hm:X.mg x=none)(hv:bootBuiltins x=some (.builtin id))(ha:PA X (e :: es) t)(hn:x≠"__name__":=by decide)(hdb:(x == ("__debug__" : Str))=false:=by decide)
  (he:starEach (e :: es) X.env=(false,eval e X.env) :: starEach es X.env:=by rfl) (hpl:(backTo pos (starEach es X.env)).any (·.1)=false:=by rfl):PE X (.Call (.Name x p) (e :: es) [] pos) (tCB r t):=by
 intro pins s σ H Q I h
 refine wpAny_Call_Name_kw (kJ I hg hm hv ?_ hn hdb)
 exact PyProof.Rows.callWith_builtin1 (thn (ha pos pins s σ H _ I h) fun us s1 ⟨vs,H1,I1,r1,q1⟩=>hc pins s1 σ H1 vs us Q I1 r1 q1) he hpl
theorem cM (hc:CallR X (.type T) r)(hg:Gl X x)(hm:X.mg x=none)(hv:bootBuiltins x=some (.type T))(ha:PA X (e :: es) t)(hn:x≠"__name__":=by decide)(hdb:(x == ("__debug__" : Str))=false:=by decide)
  (he:starEach (e :: es) X.env=(false,eval e X.env) :: starEach es X.env:=by rfl) (hpl:(backTo pos (starEach es X.env)).any (·.1)=false:=by rfl):PE X (.Call (.Name x p) (e :: es) [] pos) (tCB r t):=by
 intro pins s σ H Q I h
 refine wpAny_Call_Name_kw (kJ I hg hm hv ?_ hn hdb)
 exact PyProof.Rows.callWith_type1 (thn (ha pos pins s σ H _ I h) fun us s1 ⟨vs,H1,I1,r1,q1⟩=>hc pins s1 σ H1 vs us Q I1 r1 q1) he hpl
end
end L2
namespace HT
open PySem PyProof.Rows
section
open PySem.SeqAt
open PySem.AutoSeq1 (wpAny_loadPart')
open PySem.MeetsSeq PySem.MeetsSeq2 PySem.MeetsSeq3
end
section
variable {prog:Program}{w:World}{A:Around}{E:Value→Shared→Prop}{s:Shared}
theorem cat_tup {t b:Addr}{vs ws:List Value}{Q:Value→Shared→Prop}(ht:IsTup s.heap t vs.toArray)(hb:IsTup s.heap b ws.toArray)(hv:vs≠[])
  (h1:ws=[]→Q (.ref t) s) (h2:ws≠[]→Q (.ref s.heap.objs.size) { s with heap:=s.heap.push { cls := .type "tuple",data := .seq (vs++ws).toArray } })
  (hsz:vs.length+ws.length≤sizeLine):wpAny (model prog w) A (binaryOp .Add (.ref t) (.ref b)) Q E s:=by
 obtain ⟨⟨cls,dd,data,sl⟩,ho,hc,n,hd⟩:=id ht
 obtain ⟨⟨cls2,dd2,data2,sl2⟩,ho2,hc2,n2,hd2⟩:=id hb
 simp only at hc hd hc2 hd2
 subst hc hd hc2 hd2
 have e:vs.toArray++ws.toArray=(vs++ws).toArray:=by simp
 by_cases hw:ws=[]
 ·exact concat_meets ⟨_,ho,rfl⟩ ⟨_,ho2,rfl⟩ noFill_tuple_add seq_tuple_add PySem.F.slot_tuple_add PySem.F.entry_tuple_add (PySem.F.args_tuple_add_2 _ _)
   (tuple_addW1 t b vs.toArray ws.toArray n n2 dd dd2 sl sl2 (by simpa using hv) (by simp [hw])) ⟨ho,ho2,h1 hw⟩
 ·refine concat_meets ⟨_,ho,rfl⟩ ⟨_,ho2,rfl⟩ noFill_tuple_add seq_tuple_add PySem.F.slot_tuple_add PySem.F.entry_tuple_add (PySem.F.args_tuple_add_2 _ _)
   (tuple_addW2 t b vs.toArray ws.toArray n n2 dd dd2 sl sl2 (by simpa using hv) (by simpa using hw) (by rw [List.size_toArray,List.size_toArray];exact hsz)) ⟨ho,ho2,?_⟩
  rw [e]
  exact h2 hw
noncomputable def sIx (n d:Nat):Option Int→Nat
 | none=>d
 | some v=>if v<0 then (v+(n:Int)).toNat else min v.toNat n
theorem aDv (n d:Nat)(hd:d≤n)(o:Option Int):sIx n d o≤n:=by
 cases o with
 | none=>exact hd
 | some v=>
  show (if v<0 then (v+(n:Int)).toNat else min v.toNat n)≤n
  by_cases hv:v<0
  ·rw [if_pos hv];omega
  ·rw [if_neg hv];exact Nat.min_le_right _ _
theorem yN (v:Int)(n d:Nat):(if v<0 then max (v+(n:Int)) 0 else min v (n:Int))=((sIx n d (some v):Nat):Int):=by
 show (if v<0 then max (v+(n:Int)) 0 else min v (n:Int))=(((if v<0 then (v+(n:Int)).toNat else min v.toNat n):Nat):Int)
 by_cases hv:v<0
 ·simp only [if_pos hv];omega
 ·simp only [if_neg hv];omega
theorem vP (lo hi:Option Int)(n:Nat):Builtin.Slice.sliceAdjust lo hi 1 (n:Int)=(((sIx n 0 lo:Nat):Int),((sIx n n hi:Nat):Int)):=by
 have h1:¬ ((1:Int)<0):=by omega
 unfold Builtin.Slice.sliceAdjust
 simp only [h1,if_false]
 refine Prod.ext ?_ ?_
 ·cases lo with
  | none=>rfl
  | some v=>exact yN v n 0
 ·cases hi with
  | none=>rfl
  | some v=>exact yN v n n
theorem vC (i j:Nat):Builtin.Slice.slicePlaces (i:Int) (j:Int) 1=j - i:=by
 unfold Builtin.Slice.slicePlaces
 have h1:(1:Int) > 0:=by omega
 simp only [h1,if_true,Int.ediv_one]
 split <;> omega
theorem slicePart_ {v:Value}{o:Option Int}{Q:Option Int→Shared→Prop}(p:IsPart v o)(h:Q o s):wpAny (model prog w) A (Builtin.Slice.slicePartIndex v) Q E s:=by
 cases p with
 | none=>exact slicePart_none h
 | int i t=>exact slicePart_int h
theorem sliceApplied_gen {sl:Addr}{vl vu:Value}{lo hi:Option Int}{n:Nat}{Q:Int × Int × Nat→Shared→Prop}(hs:s.heap.IsSliceOf sl vl vu .none)(pl:IsPart vl lo)(pu:IsPart vu hi)
  (h:Q (((sIx n 0 lo:Nat):Int),1,sIx n n hi - sIx n 0 lo) s):wpAny (model prog w) A (Builtin.Slice.sliceApplied (.ref sl) (pure (n:Int))) Q E s:=by
 obtain ⟨os,hos,hcs,hds⟩:=id hs
 unfold Builtin.Slice.sliceApplied Builtin.Slice.sliceFields
 refine wpAny_bind (wpAny_bind (wpAny_field hos hds (x:=vl) rfl (wpAny_bind (wpAny_field hos hds (x:=vu) rfl (wpAny_bind (wpAny_field hos hds (x := .none) rfl (wpAny_pure ?_)))))))
 refine wpAny_bind (slicePart_none ?_)
 show wpAny _ _ (if ((1:Int) == 0)=true then _ else _) _ _ s
 rw [if_neg (by decide)]
 refine wpAny_bind (slicePart_ pl (wpAny_bind (slicePart_ pu (wpAny_bind (wpAny_pure ?_)))))
 show wpAny _ _ (match Builtin.Slice.sliceAdjust lo hi 1 (n:Int) with | (lo,hi)=>pure (lo,(1:Int),Builtin.Slice.slicePlaces lo hi 1)) _ _ s
 rw [vP lo hi n]
 show wpAny _ _ (pure (((sIx n 0 lo:Nat):Int),(1:Int),Builtin.Slice.slicePlaces ((sIx n 0 lo:Nat):Int) ((sIx n n hi:Nat):Int) 1)) _ _ s
 rw [vC]
 exact wpAny_pure h
theorem aAW (xs:Array Value)(i k:Nat):((List.range k).filterMap fun (m:Nat)=>xs[((i:Int)+(m:Int)*1).toNat]?).toArray=((xs.toList.drop i).take k).toArray:=by
 have e:(fun (m:Nat)=>xs[((i:Int)+(m:Int)*1).toNat]?)=fun m=>xs[i+m]?:=by
  funext m
  have:((i:Int)+(m:Int)*1).toNat=i+m:=by omega
  rw [this]
 rw [e]
 have:=pick_run xs i k
 rw [List.filterMap_map] at this
 have e2:((fun x=>xs[x]?)∘fun x=>i+x)=fun m=>xs[i+m]?:=rfl
 rw [e2] at this
 rw [this]
theorem getItem_tuple_cut {t sl:Addr}{items:Array Value}{vl vu:Value}{lo hi:Option Int}{Q:Value→Shared→Prop}(ht:IsTup s.heap t items)(hs:s.heap.IsSliceOf sl vl vu .none)(pl:IsPart vl lo)(pu:IsPart vu hi)
  (hw:¬ (sIx items.size 0 lo=0∧sIx items.size items.size hi=items.size))
  (h:Q (.ref s.heap.objs.size) { s with heap:=s.heap.push { cls := .type "tuple",data := .seq ((items.toList.drop (sIx items.size 0 lo)).take (sIx items.size items.size hi - sIx items.size 0 lo)).toArray } })
  (hsz:items.size≤sizeLine):wpAny (model prog w) A (getItem (.ref t) (.ref sl)) Q E s:=by
 have htake:sizeOk (.seq ((items.toList.drop (sIx items.size 0 lo)).take (sIx items.size items.size hi - sIx items.size 0 lo)).toArray):=by
  show ((items.toList.drop (sIx items.size 0 lo)).take (sIx items.size items.size hi - sIx items.size 0 lo)).toArray.size≤sizeLine
  rw [List.size_toArray,List.length_take,List.length_drop,Array.length_toList]
  omega
 have hj:sIx items.size items.size hi≤items.size:=aDv _ _ (Nat.le_refl _) hi
 obtain ⟨os,hos,hcs,hds⟩:=id hs
 have hTs:s.TypeIs (.ref sl) "slice":=⟨os,hos,hcs⟩
 unfold getItem
 try with_reducible refine wpAny_holding ?_
 first | refine wpAny_bind (wpAny_pure ?_) | skip
 refine wpAny_bind (wpAny_sequenceKey ht.typeIs (by decide) ?_)
 refine wpAny_bind (wpAny_callSpecial?_slot (name:=Str.ofString "__getitem__") ht.typeIs PyProof.Rows.slot_tuple_getitem
  (wpAny_call_entry PyProof.Rows.slot_tuple_getitem ht.typeIs entry_tuple_getitem ?_ (args_tuple_getitem _ _)))
 show wpAny _ _ (Builtin.Tuple.tupleItemsOf (.ref t) >>= _) _ _ s
 refine wpAny_bind (tupleItemsOf_ ht ?_)
 refine wpAny_bind (wpAny_typeOf hTs ?_)
 rw [if_pos (by decide)]
 refine wpAny_bind (sliceApplied_gen hs pl pu ?_)
 have hno:¬ ((((sIx items.size 0 lo:Nat):Int) == 0 && (1:Int) == 1 && (sIx items.size items.size hi - sIx items.size 0 lo) == items.size)=true):=by
  intro q
  rw [Bool.and_eq_true,Bool.and_eq_true] at q
  have q1:((sIx items.size 0 lo:Nat):Int)=0:=eq_of_beq q.1.1
  have q2:sIx items.size items.size hi - sIx items.size 0 lo=items.size:=eq_of_beq q.2
  exact hw ⟨by omega,by omega⟩
 show wpAny _ _ (if (((sIx items.size 0 lo:Nat):Int) == 0 && (1:Int) == 1 && (sIx items.size items.size hi - sIx items.size 0 lo) == items.size)=true then _ else _) _ _ s
 rw [if_neg hno,aAW]
 first
  | exact wpAny_bind (m:=Builtin.Tuple.tupleExact _) (wpAny_newObj_type (wpAny_pure ⟨_,rfl,wpAny_pure h⟩) htake)
  | exact wpAny_bind (m:=Builtin.Tuple.tupleExact _) (wpAny_newObj_type (wpAny_bind (wpAny_pure (wpAny_pure ⟨_,rfl,wpAny_pure h⟩))) htake)
  | exact wpAny_bind (wpAny_bind (m:=Builtin.Tuple.tupleExact _) (wpAny_newObj_type (wpAny_pure (wpAny_pure ⟨_,rfl,wpAny_pure h⟩)) htake))
  | exact wpAny_bind (wpAny_bind (m:=Builtin.Tuple.tupleExact _) (wpAny_newObj_type (wpAny_pure ⟨_,rfl,wpAny_pure h⟩) htake))
end
end HT
namespace L2
open PySem PySem.Spec PyProof.Rows
noncomputable abbrev TO:=St→Hp→(Option Int→Hp→Prop)→Prop
noncomputable def PO (X:Cx) (e:Option Expr) (t:TO):Prop:=
 ∀ (pins:List (Addr × Obj)) (s:Shared) (σ:St) (H:Hp) (Q:Option Int→Hp→Prop),Inv X pins σ H s→t σ H Q →
  wpAny (model X.prog X.w) X.A (evalPart e X.env) (fun u s'=>∃ o H',Inv X pins σ H' s'∧IsPart u o∧Q o H') X.xe s
noncomputable def bR:TO:=fun _ H Q=>Q none H
noncomputable def dU (t:TE):TO:=fun σ H Q=>t σ H fun x H1=>∃ i,x = .int i∧Q (some i) H1
theorem jR {ns:List Int}:∀ {us:List Value},Vals (ns.map V.int) us→IntsAre us ns:=by
 induction ns with
 | nil=>intro us r;rw [List.map_nil] at r;cases r;exact .nil
 | cons n ns ih=>
  intro us r
  rw [List.map_cons] at r
  cases r with
  | cons r1 r2=>
   obtain ⟨t,e⟩:=r1
   subst e
   exact .cons n t (ih r2)
section
variable {X:Cx}{e:Expr}{te:TE}{lo hi:Option Expr}{tl th:TO}{pos p2:Pos}
theorem cT:PO X none bR:=by
 intro pins s σ H Q I h
 rw [evalPart_none]
 exact wpAny_pure ⟨none,H,I, .none,h⟩
theorem cO (h:PE X e te):PO X (some e) (dU te):=by
 intro pins s σ H Q I hw
 rw [evalPart_some]
 refine thn (h pins s σ H _ I hw) fun u s1 ⟨x,H1,I1,r1,q1⟩=>?_
 obtain ⟨i,rfl,q⟩:=q1
 obtain ⟨t,rfl⟩:=r1
 exact ⟨some i,H1,I1, .int i t,q⟩
noncomputable def SlR (X:Cx) (r:V→Option Int→Option Int→Hp→VK→Prop):Prop:=
 ∀ (pins:List (Addr × Obj)) (s:Shared) (σ:St) (H:Hp) (x:V) (v vl vu:Value) (lo hi:Option Int) (sl:Addr) (Q:VK),Inv X pins σ H s→RelV x v→s.heap.IsSliceOf sl vl vu .none→IsPart vl lo→IsPart vu hi→r x lo hi H Q →
  ∃ T id,typeLookup (.type T) "__getitem__" = pure (some (.builtin id))∧s.TypeIs v T∧wpAny (model X.prog X.w) X.A (getItem v (.ref sl)) (EP X pins σ Q) X.xe s
theorem SlR.or {r r':V→Option Int→Option Int→Hp→VK→Prop}(h:SlR X r)(h':SlR X r'):SlR X (fun x lo hi H Q=>r x lo hi H Q∨r' x lo hi H Q):=by
 intro pins s σ H x v vl vu lo hi sl Q I rx hs pl pu q
 rcases q with q | q
 ·exact h pins s σ H x v vl vu lo hi sl Q I rx hs pl pu q
 ·exact h' pins s σ H x v vl vu lo hi sl Q I rx hs pl pu q
noncomputable def tSl (r:V→Option Int→Option Int→Hp→VK→Prop) (te:TE) (tl th:TO):TE:=fun σ H Q=>te σ H fun x H1=>tl σ H1 fun l H2=>th σ H2 fun u H3=>r x l u H3 Q
theorem bZ {r:V→Option Int→Option Int→Hp→VK→Prop}(hr:SlR X r)(he:PE X e te)(hl:PO X lo tl)(hu:PO X hi th):PE X (.Subscript e (.Slice lo hi none p2) pos) (tSl r te tl th):=by
 intro pins s σ H Q I h
 refine Subscript_ (thn (he pins s σ H _ I h) fun v s1 ⟨x,H1,I1,r1,q1⟩=>?_)
 refine wpAny_Slice (thn (hl pins s1 σ H1 _ I1 q1) fun vl s2 ⟨l,H2,I2,pl,q2⟩=>thn (hu pins s2 σ H2 _ I2 q2) fun vu s3 ⟨u,H3,I3,pu,q3⟩=>?_)
 rw [evalPart_none]
 refine wpAny_pure ?_
 have I4:Inv X pins σ H3 { s3 with heap:=s3.heap.push { cls := .type "slice",data := .fields #[vl,vu, .none] } }:=I3.kept (t':=s3.toks) fun b ob q=>Heap.get?_push_of_some _ q
 obtain ⟨T,id,hT,ht,hg⟩:=hr pins { s3 with heap:=s3.heap.push { cls := .type "slice",data := .fields #[vl,vu, .none] } } σ H3 x v vl vu l u s3.heap.objs.size Q I4 r1 (Heap.IsSliceOf.new ..) pl pu q3
 show wpAny (model X.prog X.w) X.A (subscriptTail e (.Slice lo hi none p2) v (.ref s3.heap.objs.size)) (EP X pins σ Q) X.xe { s3 with heap:=s3.heap.push { cls := .type "slice",data := .fields #[vl,vu, .none] } }
 exact tail_any (ops:=[.ref s3.heap.objs.size,v]) ht hT hg (by with_unfolding_all rfl)
noncomputable def kA (xs:List V) (lo hi:Option Int):List V:=(xs.drop (HT.sIx xs.length 0 lo)).take (HT.sIx xs.length xs.length hi - HT.sIx xs.length 0 lo)
theorem mH (xs:List V)(lo hi:Option Int):(kA xs lo hi).length≤xs.length:=by
 unfold kA
 rw [List.length_take,List.length_drop]
 omega
noncomputable def aFN (K:PySem.W.Frag):V→Option Int→Option Int→Hp→VK→Prop:=fun x lo hi H Q=>∃ a xs,x = .ref a∧SqT K H a xs ∧
 ¬ (HT.sIx xs.length 0 lo=0∧HT.sIx xs.length xs.length hi=xs.length)∧∀ p,H p=none→Q (.ref p) (upd H p (.tup (kA xs lo hi)))
theorem aCT:SlR X (aFN X.K):=by
 intro pins s σ H x v vl vu lo hi sl Q I rx hs pl pu h
 obtain ⟨a,xs,rfl,hx,hw,q⟩:=h
 cases rx
 obtain ⟨its,r,ht,hz⟩:=I.tuple hx
 have hlen:its.toArray.size=xs.length:=by rw [List.size_toArray];exact r.length.symm
 refine ⟨"tuple",_,PyProof.Rows.slot_tuple_getitem.lookup,ht.typeIs,?_⟩
 refine HT.getItem_tuple_cut ht hs pl pu (by rw [hlen];exact hw) ?_ (by rw [hlen];exact hz)
 rw [hlen]
 refine ⟨.ref s.heap.objs.size,_,I.laid (t':=s.toks) (o := .tup (kA xs lo hi)) (fun b ob q=>Heap.get?_push_of_some _ q) (Nat.le_refl _) ?_,rfl,q _ (I.hok.fresh (Nat.le_refl _))⟩
 exact ⟨Nat.le_trans (mH xs lo hi) hz,_,(r.drop (HT.sIx xs.length 0 lo)).take (HT.sIx xs.length xs.length hi - HT.sIx xs.length 0 lo),TupN.new _ _⟩
noncomputable def aES (K:PySem.W.Frag):R2:=fun x y H Q=>∃ a b xs ys,x = .ref a∧y = .ref b∧SqT K H a xs∧SqT K H b ys∧xs≠[]∧xs.length+ys.length≤sizeLine ∧
 (ys=[]→Q (.ref a) H)∧(ys≠[]→∀ p,H p=none→Q (.ref p) (upd H p (.tup (xs++ys))))
theorem Vals.nil_iff {xs:List V}{us:List Value}(r:Vals xs us):us=[]↔xs=[]:=by
 cases r with
 | nil=>simp
 | cons _ _=>simp
theorem aCk:OpR X (binaryOp .Add) (aES X.K):=by
 intro pins s σ H x y v u Q I rx ry h
 obtain ⟨a,b,xs,ys,rfl,rfl,ha,hb,hx,hz,q1,q2⟩:=h
 cases rx
 cases ry
 obtain ⟨its,r1,p1,_⟩:=I.tuple ha
 obtain ⟨its2,r2,p2,_⟩:=I.tuple hb
 refine HT.cat_tup p1 p2 (fun z=>hx (r1.nil_iff.mp z)) (fun z=>⟨.ref a,H,I,rfl,q1 (r2.nil_iff.mp z)⟩) (fun z=>?_) (by rw [← r1.length,← r2.length];exact hz)
 refine ⟨.ref s.heap.objs.size,_,I.laid (t':=s.toks) (o := .tup (xs++ys)) (fun b ob q=>Heap.get?_push_of_some _ q) (Nat.le_refl _) ?_,rfl,q2 (fun w=>z (r2.nil_iff.mpr w)) _ (I.hok.fresh (Nat.le_refl _))⟩
 exact ⟨by rw [List.length_append];exact hz,_,r1.append r2,TupN.new _ _⟩
end
end L2
namespace L2
open PySem PySem.Spec PyProof.Rows
noncomputable def ixN (n:Nat) (i:Int):Option Nat:=if 0≤i then (if i<n then some i.toNat else none) else if -(n:Int)≤i then some (i+n).toNat else none
noncomputable def atI {α:Type} (xs:List α) (i:Int):Option α:=(ixN xs.length i).bind fun j=>xs[j]?
theorem xC {n:Nat}{i:Int}{j:Nat}(h:ixN n i=some j):seqIndex? i n=some j∧j<n∧-(n:Int)≤i∧i<n:=by
 unfold ixN at h
 by_cases h0:0≤i
 ·rw [if_pos h0] at h
  by_cases h1:i<n
  ·rw [if_pos h1] at h
   have e:i.toNat=j:=Option.some.inj h
   exact ⟨by rw [seqIndex_of h0 h1,e],by omega,by omega,h1⟩
  ·rw [if_neg h1] at h;cases h
 ·rw [if_neg h0] at h
  by_cases h1:-(n:Int)≤i
  ·rw [if_pos h1] at h
   have e:(i+n).toNat=j:=Option.some.inj h
   exact ⟨by rw [seqIndex_neg (by omega) h1,e],by omega,h1,by omega⟩
  ·rw [if_neg h1] at h;cases h
theorem yL {α:Type}{xs:List α}{i:Int}{v:α}(h:atI xs i=some v):∃ j,seqIndex? i xs.length=some j∧xs[j]?=some v∧j<xs.length∧-(xs.length:Int)≤i∧i<xs.length:=by
 unfold atI at h
 cases e:ixN xs.length i with
 | none=>rw [e] at h;cases h
 | some j=>
  rw [e] at h
  obtain ⟨h1,h2,h3,h4⟩:=xC e
  exact ⟨j,h1,h,h2,h3,h4⟩
theorem xL {α:Type}{xs:List α}{j:Nat}{v:α}(h:xs[j]?=some v):atI xs (j:Int)=some v:=by
 have hj:j<xs.length:=(List.getElem?_eq_some_iff.mp h).1
 have e:ixN xs.length (j:Int)=some j:=by
  unfold ixN
  rw [if_pos (by omega),if_pos (by omega)];simp
 unfold atI;rw [e];exact h
noncomputable def aCa (b:Expr):Prop:=∀ o i,subscripted b false o i=operate [o,i] (getItem o i)
noncomputable def IxR (X:Cx) (r:R2):Prop:=
 ∀ (value slice:Expr) (pins:List (Addr × Obj)) (s:Shared) (σ:St) (H:Hp) (x y:V) (v u:Value) (Q:VK),Inv X pins σ H s→RelV x v→RelV y u→r x y H Q →
  subscripted slice false v u=operate [v,u] (getItem v u)→wpAny (model X.prog X.w) X.A (subscriptTail value slice v u) (EP X pins σ Q) X.xe s
noncomputable def MtR (X:Cx) (id:String) (r:V→List V→Hp→VK→Prop):Prop:=
 ∀ (pins:List (Addr × Obj)) (s:Shared) (σ:St) (H:Hp) (x:V) (xs:List V) (v:Value) (us:List Value) (Q:VK),Inv X pins σ H s→RelV x v→Vals xs us→r x xs H Q →
  wpAny (model X.prog X.w) X.A (call (.builtin id) (v :: us)) (EP X pins σ Q) X.xe s
section
variable {X:Cx}{a b:Expr}{ta tb:TE}{pos:Pos}
theorem IxR.or {r r':R2}(h:IxR X r)(h':IxR X r'):IxR X (fun x y H Q=>r x y H Q∨r' x y H Q):=by
 intro value slice pins s σ H x y v u Q I rx ry q hs
 rcases q with q | q
 ·exact h value slice pins s σ H x y v u Q I rx ry q hs
 ·exact h' value slice pins s σ H x y v u Q I rx ry q hs
theorem cL {r:R2}(hr:IxR X r)(ha:PE X a ta)(hb:PE X b tb)(hs:aCa b):PE X (.Subscript a b pos) (tOp r ta tb):=by
 intro pins s σ H Q I h
 exact Subscript_ (aFb ha hb I h fun v u s2 x y H2 I2 rx ry q=>hr a b pins s2 σ H2 x y v u Q I2 rx ry q (hs _ _))
noncomputable def aEr (K:PySem.W.Frag):R2:=fun x y H Q=>∃ p xs i v,x = .ref p∧y = .int i∧SqL K H p xs∧atI xs i=some v∧Q v H
noncomputable def aEw (K:PySem.W.Frag):R2:=fun x y H Q=>∃ p xs i v,x = .ref p∧y = .int i∧SqT K H p xs∧atI xs i=some v∧Q v H
theorem aBU:IxR X (aEr X.K):=by
 intro value slice pins s σ H x y v u Q I rx ry h hs
 obtain ⟨p,xs,i,z,rfl,rfl,hq,he,q⟩:=h
 cases rx
 obtain ⟨t,rfl⟩:=ry
 obtain ⟨its,r,pl,hz⟩:=I.list hq
 obtain ⟨j,h1,h2,h3,h4,h5⟩:=yL he
 obtain ⟨w,ew,rw'⟩:=r.get h2
 have hl:=r.length
 have hn:=rE
 have fin:EP X pins σ Q w s:=⟨z,H,I,rw',q⟩
 by_cases h0:0≤i
 ·have hj:i.toNat=j:=by
   rw [seqIndex_of h0 h5] at h1
   exact Option.some.inj h1
  exact item_listR pl.isList h0 (by omega) (by rw [hj];simpa using ew) fin hs
 ·have hj:(i+(its.toArray.size:Int)).toNat=j:=by
   rw [seqIndex_neg (by omega) h4] at h1
   rw [List.size_toArray,← hl]
   exact Option.some.inj h1
  exact subscriptTail_builtinR (x:=w) pl.isList.typeIs slot_list_getitem.lookup
   (wpAny_getItem_list_neg (Q:=fun r s'=>r=w∧EP X pins σ Q r s') pl.isList (by omega) (by rw [List.size_toArray] <;> omega) (by omega) (by rw [hj];simpa using ew) ⟨rfl,fin⟩) hs
theorem aDn:IxR X (aEw X.K):=by
 intro value slice pins s σ H x y v u Q I rx ry h hs
 obtain ⟨p,xs,i,z,rfl,rfl,hq,he,q⟩:=h
 cases rx
 obtain ⟨t,rfl⟩:=ry
 obtain ⟨its,r,pl,hz⟩:=I.tuple hq
 obtain ⟨j,h1,h2,h3,h4,h5⟩:=yL he
 obtain ⟨w,ew,rw'⟩:=r.get h2
 have hl:=r.length
 have hn:=rE
 have fin:EP X pins σ Q w s:=⟨z,H,I,rw',q⟩
 exact subscriptTail_builtinR (x:=w) pl.typeIs slot_tuple_getitem.lookup
  (getItem_tuple (j:=j) (Q:=fun r s'=>r=w∧EP X pins σ Q r s') pl (by omega) (by omega) (by rw [List.size_toArray,← hl];exact h1) (by simpa using ew) ⟨rfl,fin⟩) hs
theorem vH (its:List Value)(n j:Nat)(u:Value):Obj.mapSeq (·.setIfInBounds j u) { cls := .type "list",data := .seq its.toArray n }={ cls := .type "list",data := .seq (its.set j u).toArray n }:=by
 simp [Obj.mapSeq]
theorem Inv.lst {pins:List (Addr × Obj)}{σ:St}{H:Hp}{s:Shared}{p:Addr}{xs:List V}(I:Inv X pins σ H s)(h:H p=some (.lst xs)) :
  ∃ (its:List Value) (n:Nat),Vals xs its∧s.heap.get? p=some { cls := .type "list",data := .seq its.toArray n }∧xs.length≤sizeLine:=by
 obtain ⟨z,its,n,r,e⟩:=I.hok p _ h
 exact ⟨its,n,r,e,z⟩
theorem Inv.lstUpd {pins:List (Addr × Obj)}{σ:St}{H:Hp}{s:Shared}{p:Addr}{xs ys:List V}{its its':List Value}{n n':Nat}{f:Obj→Obj}(I:Inv X pins σ H s)(h:H p=some (.lst xs))
  (ho:s.heap.get? p=some { cls := .type "list",data := .seq its.toArray n }) (hf:f { cls := .type "list",data := .seq its.toArray n }={ cls := .type "list",data := .seq its'.toArray n' }) (r:Vals ys its') (hz:ys.length≤sizeLine) (t:Nat) :
  Inv X pins σ (upd H p (.lst ys)) { s with heap:=s.heap.update p f,toks:=t }:=by
 have e:(s.heap.update p f).get? p=some { cls := .type "list",data := .seq its'.toArray n' }:=by
  rw [Heap.get?_update_self f ho (by rw [hf] <;> rfl),hf]
 refine I.write (x:=p) (e:=p) (by rw [h];trivial) (.inl rfl) (fun b u hb q=>(Heap.get?_update_other _ _ (Ne.symm hb)).trans q) ⟨_,e⟩ ?_
 exact ⟨hz,its',n',r,e⟩
noncomputable def jY:V→V→V→Hp→(Hp→Prop)→Prop:=fun o i v H Q=>∃ p xs k j,o = .ref p∧i = .int k∧H p=some (.lst xs)∧ixN xs.length k=some j∧Q (upd H p (.lst (xs.set j v)))
theorem gK:aFm X jY:=by
 intro pins s σ H o i v ov iv u Q I ro ri rv h
 obtain ⟨p,xs,k,j,rfl,rfl,hp,hj,q⟩:=h
 cases ro
 obtain ⟨t,rfl⟩:=ri
 obtain ⟨its,n,r,ho,hz⟩:=I.lst hp
 obtain ⟨h1,h2,h3,h4⟩:=xC hj
 have hl:=r.length
 have hn:=rE
 have I':Inv X pins σ (upd H p (.lst (xs.set j v))) { s with heap:=s.heap.update p (Obj.mapSeq (·.setIfInBounds j u)) }:=
  I.lstUpd hp ho (vH its n j u) (r.set rv j) (by rw [List.length_set];exact hz) s.toks
 by_cases h0:0≤k
 ·have hk:k.toNat=j:=by
   rw [seqIndex_of h0 h4] at h1
   exact Option.some.inj h1
  exact PySem.W.ki_setAt ho h0 (by omega) (by rw [List.size_toArray,← hl];exact h4) (by rw [hk];exact ⟨_,I',q⟩)
 ·have hk:(k+(its.toArray.size:Int)).toNat=j:=by
   rw [seqIndex_neg (by omega) h3] at h1
   rw [List.size_toArray,← hl]
   exact Option.some.inj h1
  exact PySem.W.ki_setBack ho (by omega) (by rw [List.size_toArray,← hl];exact h3) (by omega) (by rw [hk];exact ⟨_,I',q⟩)
theorem rN (lo hi:Option Int)(n:Nat):(sliceBounds lo hi none n).1=((HT.sIx n 0 lo:Nat):Int)∧(sliceBounds lo hi none n).2.1=((HT.sIx n n hi:Nat):Int)∧(sliceBounds lo hi none n).2.2=1:=by
 refine ⟨?_,?_,rfl⟩
 ·cases lo with
  | none=>simp [sliceBounds,HT.sIx]
  | some i=>
   simp only [sliceBounds,HT.sIx,Option.getD_none,show (1:Int) > 0 by decide,if_true]
   by_cases h:i<0
   ·simp only [h,if_true] <;> omega
   ·simp only [h,if_false] <;> omega
 ·cases hi with
  | none=>simp [sliceBounds,HT.sIx]
  | some i=>
   simp only [sliceBounds,HT.sIx,Option.getD_none,show (1:Int) > 0 by decide,if_true]
   by_cases h:i<0
   ·simp only [h,if_true] <;> omega
   ·simp only [h,if_false] <;> omega
theorem pT (its:List Value)(lo hi:Option Int):slicePick its.toArray lo hi none=((its.drop (HT.sIx its.length 0 lo)).take (HT.sIx its.length its.length hi - HT.sIx its.length 0 lo)).toArray:=by
 obtain ⟨h1,h2,h3⟩:=rN lo hi its.toArray.size
 unfold slicePick
 rw [h1,h2,h3]
 simp only [sliceRange_one,pick_run,List.size_toArray] <;> rfl
noncomputable def aFv (K:PySem.W.Frag):V→Option Int→Option Int→Hp→VK→Prop:=fun x lo hi H Q=>∃ a xs,x = .ref a∧SqL K H a xs∧∀ p,H p=none→Q (.ref p) (upd H p (.lst (kA xs lo hi)))
theorem aBK:SlR X (aFv X.K):=by
 intro pins s σ H x v vl vu lo hi sl Q I rx hs pl pu h
 obtain ⟨a,xs,rfl,hx,q⟩:=h
 cases rx
 obtain ⟨its,r,ht,hz⟩:=I.list hx
 have hlen:=r.length
 refine ⟨"list",_,slot_list_getitem.lookup,ht.isList.typeIs,?_⟩
 refine wpAny_getItem_list_slice ht.isList hs pl pu .none (by simp) ?_ (by rw [List.size_toArray] <;> omega)
 rw [pT,← hlen]
 refine ⟨.ref s.heap.objs.size,_,I.laid (t':=s.toks) (o := .lst (kA xs lo hi)) (fun b ob q=>Heap.get?_push_of_some _ q) (Nat.le_refl _) ?_,rfl,q _ (I.hok.fresh (Nat.le_refl _))⟩
 exact ⟨Nat.le_trans (mH xs lo hi) hz,_,0,(r.drop (HT.sIx xs.length 0 lo)).take (HT.sIx xs.length xs.length hi - HT.sIx xs.length 0 lo),Heap.get?_push_size _ rfl⟩
noncomputable def oS:V→Bool
 | .non=>true
 | .bl _=>true
 | .int _=>true
 | .str _=>true
 | _=>false
noncomputable def eqV:V→V→Bool
 | .non, .non=>true
 | .bl a, .bl b=>a == b
 | .bl a, .int b=>(if a then 1 else 0) == b
 | .int a, .bl b=>a == (if b then 1 else 0)
 | .int a, .int b=>a == b
 | .str a, .str b=>a == b
 | _,_=>false
theorem aDD {A:Around}{s:Shared}{y x:V}{u v:Value}(ry:RelV y u)(rx:RelV x v)(fy:oS y=true)(fx:oS x=true):SeqAt.EqAt A s u v (eqV y x):=by
 cases y with
 | non=>
  cases ry
  cases x with
  | non=>cases rx;exact SeqAt.EqAt.same _
  | bl b=>cases rx;exact SeqAt.EqAt.none_bool b
  | int b=>obtain ⟨t,rfl⟩:=rx;exact SeqAt.EqAt.none_int b t
  | str b=>obtain ⟨t,rfl⟩:=rx;exact SeqAt.EqAt.none_str b t
  | _=>exact absurd (show false=true from fx) Bool.false_ne_true
 | bl a=>
  cases ry
  cases x with
  | non=>cases rx;exact SeqAt.EqAt.bool_none a
  | bl b=>cases rx;exact SeqAt.EqAt.bool_bool a b
  | int b=>obtain ⟨t,rfl⟩:=rx;exact SeqAt.EqAt.bool_int a b t
  | str b=>obtain ⟨t,rfl⟩:=rx;exact SeqAt.EqAt.bool_str a b t
  | _=>exact absurd (show false=true from fx) Bool.false_ne_true
 | int a=>
  obtain ⟨t',rfl⟩:=ry
  cases x with
  | non=>cases rx;exact SeqAt.EqAt.int_none a t'
  | bl b=>cases rx;exact SeqAt.EqAt.int_bool a t' b
  | int b=>obtain ⟨t,rfl⟩:=rx;exact SeqAt.EqAt.int_int a t' b t
  | str b=>obtain ⟨t,rfl⟩:=rx;exact SeqAt.EqAt.int_str a t' b t
  | _=>exact absurd (show false=true from fx) Bool.false_ne_true
 | str a=>
  obtain ⟨t',rfl⟩:=ry
  cases x with
  | non=>cases rx;exact SeqAt.EqAt.str_none a t'
  | bl b=>cases rx;exact SeqAt.EqAt.str_bool a t' b
  | int b=>obtain ⟨t,rfl⟩:=rx;exact SeqAt.EqAt.str_int a t' b t
  | str b=>obtain ⟨t,rfl⟩:=rx;exact SeqAt.EqAt.str_str a t' b t
  | _=>exact absurd (show false=true from fx) Bool.false_ne_true
 | _=>exact absurd (show false=true from fy) Bool.false_ne_true
noncomputable def eqU (x:V) (u:Value):Bool:=match u with
 | .none=>eqV .non x
 | .bool b=>eqV (.bl b) x
 | .int i _=>eqV (.int i) x
 | .str z _=>eqV (.str z) x
 | _=>false
theorem aBC {x y:V}{u:Value}(r:RelV y u)(f:oS y=true):eqU x u=eqV y x:=by
 cases y with
 | non=>cases r;rfl
 | bl b=>cases r;rfl
 | int i=>obtain ⟨t,rfl⟩:=r;rfl
 | str z=>obtain ⟨t,rfl⟩:=r;rfl
 | _=>exact absurd (show false=true from f) Bool.false_ne_true
theorem mV {x:V}:∀ {xs:List V} {us:List Value},Vals xs us→xs.all oS=true→us.any (eqU x)=xs.any fun y=>eqV y x
 | _,_, .nil,_=>rfl
 | y :: xs,u :: us, .cons r t,f=>by
  rw [List.all_cons,Bool.and_eq_true] at f
  rw [List.any_cons,List.any_cons,aBC r f.1,mV t f.2]
theorem iX {A:Around}{s:Shared}{x:V}{v:Value}(rx:RelV x v)(fx:oS x=true):∀ {xs:List V} {us:List Value},Vals xs us→xs.all oS=true→∀ u∈us,SeqAt.EqAt A s u v (eqU x u)
 | _,_, .nil,_=>fun u hu=>by cases hu
 | y :: xs,u :: us, .cons r t,f=>fun u' hu=>by
  rw [List.all_cons,Bool.and_eq_true] at f
  rcases List.mem_cons.mp hu with rfl | hu
  ·rw [aBC r f.1];exact aDD r rx f.1 fx
  ·exact iX rx fx t f.2 u' hu
noncomputable def inV (x:V) (xs:List V):Bool:=xs.any fun y=>eqV y x
noncomputable def rIn (K:PySem.W.Frag) (neg:Bool):R2:=fun x y H Q=>∃ p xs,y = .ref p∧(SqL K H p xs∨SqT K H p xs)∧oS x=true∧xs.all oS=true∧Q (.bl (if neg then !inV x xs else inV x xs)) H
theorem xG:OpR X (compareOp .In) (rIn X.K false):=by
 intro pins s σ H x y v u Q I rx ry h
 obtain ⟨p,xs,rfl,hq,fx,fs,q⟩:=h
 cases ry
 rcases hq with hq | hq
 ·obtain ⟨its,r,pl,hz⟩:=I.list hq
  refine SeqAt.in_listAt (eqU x) pl.isList (fun w hw=>iX rx fx r fs w (by simpa using hw)) ⟨.bl _,H,I,rfl,?_⟩
  rw [show its.toArray.any (eqU x)=its.any (eqU x) by simp,mV r fs]
  exact q
 ·obtain ⟨its,r,pl,hz⟩:=I.tuple hq
  refine SeqAt.in_tupleAt (eqU x) pl (fun w hw=>iX rx fx r fs w (by simpa using hw)) ⟨.bl _,H,I,rfl,?_⟩
  rw [show its.toArray.any (eqU x)=its.any (eqU x) by simp,mV r fs]
  exact q
theorem qF:OpR X (compareOp .NotIn) (rIn X.K true):=by
 intro pins s σ H x y v u Q I rx ry h
 obtain ⟨p,xs,rfl,hq,fx,fs,q⟩:=h
 cases ry
 rcases hq with hq | hq
 ·obtain ⟨its,r,pl,hz⟩:=I.list hq
  refine SeqAt.notIn_listAt (eqU x) pl.isList (fun w hw=>iX rx fx r fs w (by simpa using hw)) ⟨.bl _,H,I,rfl,?_⟩
  rw [show its.toArray.any (eqU x)=its.any (eqU x) by simp,mV r fs]
  exact q
 ·obtain ⟨its,r,pl,hz⟩:=I.tuple hq
  refine SeqAt.notIn_tupleAt (eqU x) pl (fun w hw=>iX rx fx r fs w (by simpa using hw)) ⟨.bl _,H,I,rfl,?_⟩
  rw [show its.toArray.any (eqU x)=its.any (eqU x) by simp,mV r fs]
  exact q
theorem qN:CallR X (.builtin "len") (fun xs H Q=>∃ p ys,xs=[.ref p]∧(SqL X.K H p ys∨SqT X.K H p ys)∧Q (.int ys.length) H):=by
 intro pins s σ H xs us Q I r h
 obtain ⟨p,ys,rfl,hq,q⟩:=h
 obtain ⟨u,rfl,rx⟩:=pB r
 cases rx
 have hn:=rE
 rcases hq with hq | hq
 ·obtain ⟨its,r',pl,hz⟩:=I.list hq
  have hlen:=r'.length
  exact Calls.call_len_list pl.isList (by simp only [List.size_toArray] <;> omega) ⟨.int ys.length,H,I.tok _,⟨s.toks+1,by rw [List.size_toArray,hlen]⟩,q⟩
 ·obtain ⟨its,r',pl,hz⟩:=I.tuple hq
  have hlen:=r'.length
  exact len_tuple pl (by simp only [List.size_toArray] <;> omega) ⟨.int ys.length,H,I.tok _,⟨s.toks+1,by rw [List.size_toArray,hlen]⟩,q⟩
theorem CallR.or {f:Value}{r r':List V→Hp→VK→Prop}(h:CallR X f r)(h':CallR X f r'):CallR X f (fun xs H Q=>r xs H Q∨r' xs H Q):=by
 intro pins s σ H xs us Q I rs q
 rcases q with q | q
 ·exact h pins s σ H xs us Q I rs q
 ·exact h' pins s σ H xs us Q I rs q
theorem qI:CallR X (.type "list") (fun xs H Q=>∃ p ys,xs=[.ref p]∧(SqL X.K H p ys∨SqT X.K H p ys)∧∀ l,H l=none→Q (.ref l) (upd H l (.lst ys))):=by
 intro pins s σ H xs us Q I r h
 obtain ⟨p,ys,rfl,hq,q⟩:=h
 obtain ⟨u,rfl,rx⟩:=pB r
 cases rx
 have fin:∀ (its:List Value),Vals ys its→ys.length≤sizeLine→∀ (h':Heap) (c':Nat),(∀ b o',s.heap.get? b=some o'→h'.get? b=some o') →
   h'.get? s.heap.objs.size=some { cls := .type "list",dict:=none,data := .seq its.toArray c',slots:=#[] }→EP X pins σ Q (.ref s.heap.objs.size) { s with heap:=h' }:=fun its r' hz h' c' kp e=>
  ⟨.ref s.heap.objs.size,_,I.laid (t':=s.toks) kp (Nat.le_refl _) (show ObjOk X.prog X.w _ h' _ (.lst ys) from ⟨hz,its,c',r',e⟩),rfl,q _ (I.hok.fresh (Nat.le_refl _))⟩
 rcases hq with hq | hq
 ·obtain ⟨its,r',pl,hz⟩:=I.list hq
  have hlen:=r'.length
  obtain ⟨o,ho,hc,n,hd⟩:=pl.isList
  exact call_list_seq p (.inl rfl) ho hc hd (fun h' c' kp e=>fin its r' hz h' c' kp e) (by simp only [List.size_toArray] <;> omega)
 ·obtain ⟨its,r',pl,hz⟩:=I.tuple hq
  have hlen:=r'.length
  obtain ⟨o,ho,hc,n,hd⟩:=pl
  exact call_list_seq p (.inr rfl) ho hc hd (fun h' c' kp e=>fin its r' hz h' c' kp e) (by simp only [List.size_toArray] <;> omega)
theorem oP:CallR X (.type "tuple") (fun xs H Q=>∃ p ys,xs=[.ref p]∧((SqL X.K H p ys∧∀ l,H l=none→Q (.ref l) (upd H l (.tup ys)))∨(SqT X.K H p ys∧Q (.ref p) H))):=by
 intro pins s σ H xs us Q I r h
 obtain ⟨p,ys,rfl,h⟩:=h
 obtain ⟨u,rfl,rx⟩:=pB r
 cases rx
 rcases h with ⟨hq,q⟩ | ⟨hq,q⟩
 ·obtain ⟨its,r',pl,hz⟩:=I.list hq
  have hlen:=r'.length
  refine call_tuple_list pl.isList (fun h' kp=>?_) (by simp only [List.size_toArray] <;> omega)
  have I1:Inv X pins σ H { s with heap:=h' }:=I.kept (t':=s.toks) kp
  have I2:Inv X pins σ (upd H h'.objs.size (.tup ys)) { s with heap:=h'.push { cls := .type "tuple",data := .seq its.toArray } }:=
   I1.laid (t':=s.toks) (fun b o e=>Heap.get?_push_of_some _ e) (Nat.le_refl _) (show ObjOk X.prog X.w _ _ _ (.tup ys) from ⟨hz,its,r',TupN.new _ _⟩)
  exact ⟨.ref h'.objs.size,_,I2,rfl,q _ (I1.hok.fresh (Nat.le_refl _))⟩
 ·obtain ⟨its,r',pl,hz⟩:=I.tuple hq
  exact call_tuple_same pl ⟨.ref p,H,I,rfl,q⟩
noncomputable def tyV (K:PySem.W.Frag) (T:String) (x:V) (H:Hp):Prop:=match x with
 | .str _=>T="str"
 | .int _=>T="int"
 | .ref p=>(T="list"∧∃ xs,SqL K H p xs)∨(T="tuple"∧∃ o,K.lookup p=some o∧o.cls = .type "tuple"∧o.dict=none) ∨
   (T="dict"∧((∃ kvs,H p=some (.dK kvs))∨∃ kvs,H p=some (.dT kvs)))∨(T="set"∧∃ S n,H p=some (.set S n))
 | _=>False
theorem aDm {pins:List (Addr × Obj)}{σ:St}{H:Hp}{s:Shared}{T:String}{x:V}{v:Value}(I:Inv X pins σ H s)(r:RelV x v)(ty:tyV X.K T x H) :
  s.TypeIs v T∧∀ a,v = .ref a→∃ ob,s.heap.get? a=some ob∧ob.dict=none:=by
 cases x with
 | str z=>
  obtain ⟨t,rfl⟩:=r
  cases (show T="str" from ty)
  exact ⟨typeIs_str s z t,fun _ e=>nomatch e⟩
 | int i=>
  obtain ⟨t,rfl⟩:=r
  cases (show T="int" from ty)
  exact ⟨typeIs_int s i t,fun _ e=>nomatch e⟩
 | ref p=>
  cases r
  rcases ty with ⟨rfl,xs,hq⟩ | ⟨rfl,o,hk,hc,hd⟩ | ⟨rfl,hk⟩ | ⟨rfl,S,n,hk⟩
  ·obtain ⟨its,_,pl,_⟩:=I.list hq
   refine ⟨pl.isList.typeIs,fun a e=>?_⟩
   cases e
   obtain ⟨o,n,e,c,hd,_⟩:=pl
   exact ⟨o,e,hd⟩
  ·refine ⟨⟨o,I.kIn p o hk,hc⟩,fun a e=>?_⟩
   cases e
   exact ⟨o,I.kIn _ o hk,hd⟩
  ·have z:∃ o,s.heap.get? p=some o∧o.ExactDict:=by
    rcases hk with ⟨kvs,hk⟩ | ⟨kvs,hk⟩
    ·obtain ⟨_,_,_,_,o,_,_,e,ex,_⟩:=I.hok p _ hk
     exact ⟨o,e,ex⟩
    ·obtain ⟨_,_,_,_,o,_,_,e,ex,_⟩:=I.hok p _ hk
     exact ⟨o,e,ex⟩
   obtain ⟨o,e,ex⟩:=z
   refine ⟨⟨o,e,ex.1⟩,fun a e2=>?_⟩
   cases e2
   exact ⟨o,e,ex.2.1⟩
  ·obtain ⟨o,_,_,_,e,ex,_⟩:=I.hok p _ hk
   refine ⟨⟨o,e,ex.1⟩,fun a e2=>?_⟩
   cases e2
   exact ⟨o,e,ex.2.1⟩
 | _=>exact False.elim ty
noncomputable def tBM (K:PySem.W.Frag) (T:String) (r:V→List V→Hp→VK→Prop) (to:TE) (t:TA):TE:=fun σ H Q=>to σ H fun x H1=>tyV K T x H1∧t σ H1 fun xs H2=>r x xs H2 Q
variable {o e:Expr}{es:List Expr}{to:TE}{t:TA}{name:Str}{apos cpos:Pos}{T id:String}{r:V→List V→Hp→VK→Prop}
theorem aEL (pa:PlainAttrs T)(slot:Slot T name id)(hty:typeOf (.builtin id)=pure (.type "method_descriptor"))(hm:MtR X id r)(ho:PE X o to)(ha:PA X (e :: es) t)
  (hbase:attributeBase o name X.env (eval o X.env)=eval o X.env:=by rfl)
  (hfew:((backTo cpos (starEach (e :: es) X.env)).all (fun x=>!x.1) && (backToKw cpos (keywordEach [] X.env)).all (fun x=>x.1.isSome)
   && decide ((e :: es).length+([]:List Keyword).length+(if ([]:List Keyword).isEmpty then 0 else 1)<30))=true:=by rfl)
  (hline:(apos.endLine == cpos.line)=true:=by rfl) (hs:starEach (e :: es) X.env=(false,eval e X.env) :: starEach es X.env:=by rfl) (hplain:(backTo cpos (starEach es X.env)).any (·.1)=false:=by rfl) :
  PE X (.Call (.Attribute o name apos) (e :: es) [] cpos) (tBM X.K T r to t):=by
 intro pins s σ H Q I h
 refine wpAny_Call_method_late hbase hfew hline rfl (thn (ho pins s σ H _ I h) fun v s1 ⟨x,H1,I1,r1,ty,q1⟩=>?_)
 obtain ⟨h1,h2⟩:=aDm I1 r1 ty
 refine ⟨T,id,pa,slot,hty,h1,h2,?_⟩
 have hA:=ha cpos pins s1 σ H1 _ I1 q1
 rw [hs] at hA ⊢
 refine Calls.callWith_builtin (by show (false || (backTo cpos (starEach es X.env)).any (·.1))=false;rw [hplain] <;> rfl) (Calls.evalArgs_plain ?_)
 exact thn hA fun us s2 ⟨vs,H2,I2,r2,q2⟩=>hm pins s2 σ H2 x vs v us Q I2 r1 r2 q2
end
end L2
namespace L2
open PySem PySem.Spec PyProof.Rows
noncomputable def MtM (X:Cx) (id:String) (r:V→List V→Hp→VK→Prop):Prop:=
 ∀ (pins:List (Addr × Obj)) (s:Shared) (σ:St) (H:Hp) (x:V) (xs:List V) (v:Value) (us:List Value) (Q:VK),Inv X pins σ H s→RelV x v→Vals xs us→r x xs H Q →
  wpAny (model X.prog X.w) X.A (call (.builtin id) (v :: us)) (EP X pins σ Q) X.xe s
theorem Vals.one:∀ {x:V} {us:List Value},Vals [x] us→∃ u,us=[u]∧RelV x u
 | _,_, .cons r .nil=>⟨_,rfl,r⟩
theorem Vals.two:∀ {x y:V} {us:List Value},Vals [x,y] us→∃ u v,us=[u,v]∧RelV x u∧RelV y v
 | _,_,_, .cons r (.cons q .nil)=>⟨_,_,rfl,r,q⟩
theorem Vals.eraseIdx:∀ {xs:List V} {us:List Value} (i:Nat),Vals xs us→Vals (xs.eraseIdx i) (us.eraseIdx i)
 | _,_,_, .nil => .nil
 | _,_,0, .cons _ t=>t
 | _,_,i+1, .cons r t => .cons r (Vals.eraseIdx i t)
theorem Vals.rep {xs:List V}{us:List Value}(h:Vals xs us):∀ k:Nat,Vals (List.replicate k xs).flatten (List.replicate k us).flatten
 | 0 => .nil
 | k+1=>by
  rw [List.replicate_succ,List.replicate_succ,List.flatten_cons,List.flatten_cons]
  exact Vals.append h (Vals.rep h k)
theorem qD {α:Type}:∀ (l:List α) (i:Nat),(l.eraseIdx i).length≤l.length
 | [],_=>Nat.le_refl _
 | _ :: _,0=>Nat.le_succ _
 | _ :: r,i+1=>Nat.succ_le_succ (qD r i)
theorem rJ (its:List Value):∀ (k:Nat) (acc:List Value),
  List.foldl (fun x1 x2=>x1++x2) acc.toArray (List.replicate k its.toArray)=(acc++(List.replicate k its).flatten).toArray
 | 0,acc=>by simp
 | k+1,acc=>by
  have e:acc.toArray++its.toArray=(acc++its).toArray:=by simp
  have e2:(acc++its)++(List.replicate k its).flatten=acc++(List.replicate (k+1) its).flatten:=by
   rw [List.replicate_succ,List.flatten_cons,List.append_assoc]
  rw [← e2,← rJ its k (acc++its),← e,List.replicate_succ,List.foldl_cons]
section
variable {X:Cx}{pins:List (Addr × Obj)}{σ:St}{H:Hp}{s:Shared}{l b:Addr}{xs ys zs:List V}
theorem Inv.lset {its its':List Value}{n:Nat}{f:Array Value→Array Value}{t':Nat}(I:Inv X pins σ H s)(hH:H l=some (.lst xs))
  (e:s.heap.get? l=some { cls := .type "list",data := .seq its.toArray n }) (hf:f its.toArray=its'.toArray) (hv:Vals ys its') (hz:ys.length≤sizeLine) :
  Inv X pins σ (upd H l (.lst ys)) { s with heap:=s.heap.update l (Obj.mapSeq f),toks:=t' }:=by
 have q:=PySem.IsL.update e f
 rw [hf] at q
 refine I.write (x:=l) (e:=l) (by rw [hH];exact trivial) (.inl rfl) (fun b' u hb hu=>(Heap.get?_update_other s.heap (Obj.mapSeq f) (Ne.symm hb)).trans hu) ⟨_,q⟩ ?_
 exact ⟨hz,its',_,hv,q⟩
theorem Inv.lnew {its:List Value}{t':Nat}(I:Inv X pins σ H s)(hv:Vals ys its)(hz:ys.length≤sizeLine) :
  Inv X pins σ (upd H s.heap.objs.size (.lst ys)) { s with heap:=s.heap.push { cls := .type "list",data := .seq its.toArray },toks:=t' }:=
 I.laid (fun _ _ q=>Heap.get?_push_of_some _ q) (Nat.le_refl _) ⟨hz,its,0,hv,Heap.get?_push_size _ rfl⟩
theorem Inv.fresh (I:Inv X pins σ H s):H s.heap.objs.size=none:=I.hok.fresh (Nat.le_refl _)
theorem Inv.lstM (I:Inv X pins σ H s)(hH:H l=some (.lst xs)):xs.length≤sizeLine∧∃ (its:List Value) (n:Nat),Vals xs its∧xs.length=its.length∧s.heap.get? l=some { cls := .type "list",data := .seq its.toArray n }:=by
 obtain ⟨z,its,n,r,e⟩:=I.hok l _ hH
 exact ⟨z,its,n,r,r.length,e⟩
theorem pF {n:Nat}(h:n≤sizeLine):Builtin.List.listTooLong n=false:=by
 unfold Builtin.List.listTooLong
 exact decide_eq_false (by omega)
end
section
variable {X:Cx}
noncomputable def hV:V→List V→Hp→VK→Prop:=fun x vs H Q=>∃ l xs y,x = .ref l∧vs=[y]∧H l=some (.lst xs)∧xs.length<sizeLine∧Q .non (upd H l (.lst (xs++[y])))
theorem iK:MtM X "list.append" hV:=by
 intro pins s σ H x vs v us Q I rx rv h
 obtain ⟨l,xs,y,rfl,rfl,hH,hz,q⟩:=h
 cases rx
 obtain ⟨u,rfl,ru⟩:=rv.one
 obtain ⟨z,its,n,r,hl,e⟩:=I.lstM hH
 refine call_meets F.slot_list_append ⟨_,e,rfl⟩ F.entry_list_append (F.args_list_append_2 _ _) (PySem.list_append l its.toArray n u (by rw [List.size_toArray];omega)) ⟨e,?_⟩
 refine ⟨.non,_,I.lset (its':=its++[u]) hH e (by simp) (r.append (.cons ru .nil)) ?_,rfl,q⟩
 rw [List.length_append,List.length_singleton]
 omega
noncomputable def wF:V→List V→Hp→VK→Prop:=fun x vs H Q=>∃ l b xs zs,x = .ref l∧vs=[.ref b]∧H l=some (.lst xs)∧H b=some (.lst zs)∧xs.length+zs.length≤sizeLine∧Q .non (upd H l (.lst (xs++zs)))
theorem xB:MtM X "list.extend" wF:=by
 intro pins s σ H x vs v us Q I rx rv h
 obtain ⟨l,b,xs,zs,rfl,rfl,hH,hB,hz,q⟩:=h
 cases rx
 obtain ⟨u,rfl,ru⟩:=rv.one
 cases ru
 obtain ⟨z,its,n,r,hl,e⟩:=I.lstM hH
 obtain ⟨z2,its2,n2,r2,hl2,e2⟩:=I.lstM hB
 have hsz:its.toArray.size+its2.toArray.size≤sizeLine:=by rw [List.size_toArray,List.size_toArray];omega
 have hlong:¬ (!its.toArray.isEmpty && Builtin.List.listTooLong (its.toArray.size+its2.toArray.size))=true:=by
  rw [pF hsz,Bool.and_false]
  exact Bool.false_ne_true
 refine call_meets F.slot_list_extend ⟨_,e,rfl⟩ F.entry_list_extend (F.args_list_extend_2 _ _)
  (AutoSeq1.list_extend_list_list_0 l its.toArray n b its2.toArray n2 hlong (by rw [List.size_toArray];omega) (by omega)) ⟨e,e2,?_⟩
 refine ⟨.non,_,I.lset (its':=its++its2) hH e (by simp) (r.append r2) ?_,rfl,q⟩
 rw [List.length_append]
 omega
noncomputable def aBb:V→List V→Hp→VK→Prop:=fun x vs H Q=>∃ l xs i k y,x = .ref l∧vs=[.int i]∧H l=some (.lst xs)∧-(2 ^ 63)≤i∧i<2 ^ 63∧seqIndex? i xs.length=some k∧xs[k]?=some y∧Q y (upd H l (.lst (xs.eraseIdx k)))
theorem aAk:MtM X "list.pop" aBb:=by
 intro pins s σ H x vs v us Q I rx rv h
 obtain ⟨l,xs,i,k,y,rfl,rfl,hH,h1,h2,hk,hy,q⟩:=h
 cases rx
 obtain ⟨u,rfl,ru⟩:=rv.one
 obtain ⟨t,rfl⟩:=ru
 obtain ⟨z,its,n,r,hl,e⟩:=I.lstM hH
 obtain ⟨w,hw,rw'⟩:=r.get hy
 refine call_meets F.slot_list_pop ⟨_,e,rfl⟩ F.entry_list_pop (F.args_list_pop_2 _ _)
  (MeetsSeq.list_pop_at l its.toArray n i t k w (fitsIndex_both h1 h2) (by rw [List.size_toArray,← hl];exact hk) (by rw [← Array.getElem?_toList];exact hw) (by rw [List.size_toArray];omega)) ⟨e,?_⟩
 refine ⟨y,_,I.lset (its':=its.eraseIdx k) hH e ?_ (r.eraseIdx k) ?_,rw',q⟩
 ·show its.toArray.eraseIdxIfInBounds k=(its.eraseIdx k).toArray
  rw [List.eraseIdxIfInBounds_toArray]
 ·have:=qD xs k
  omega
noncomputable def aFl:R2:=fun x y H Q=>∃ l b xs zs,x = .ref l∧y = .ref b∧H l=some (.lst xs)∧H b=some (.lst zs)∧xs.length+zs.length≤sizeLine∧∀ p,H p=none→Q (.ref p) (upd H p (.lst (xs++zs)))
theorem aDz:OpR X (binaryOp .Add) aFl:=by
 intro pins s σ H x y v u Q I rx ry h
 obtain ⟨l,b,xs,zs,rfl,rfl,hH,hB,hz,q⟩:=h
 cases rx
 cases ry
 obtain ⟨z,its,n,r,hl,e⟩:=I.lstM hH
 obtain ⟨z2,its2,n2,r2,hl2,e2⟩:=I.lstM hB
 refine PySem.P.add_list e e2 ?_ (by rw [List.size_toArray,List.size_toArray];omega)
 have ea:its.toArray++its2.toArray=(its++its2).toArray:=by simp
 rw [ea]
 exact ⟨.ref _,_,I.lnew (t':=s.toks) (r.append r2) (by rw [List.length_append];omega),rfl,q _ I.fresh⟩
noncomputable def aFd:R2:=fun x y H Q=>∃ l k xs,x = .ref l∧y = .int k∧H l=some (.lst xs)∧-(2 ^ 63)≤k∧k<2 ^ 63∧xs.length*k.toNat≤sizeLine ∧
 ∀ p,H p=none→Q (.ref p) (upd H p (.lst (List.replicate k.toNat xs).flatten))
theorem aBF {α:Type}(xs:List α)(k:Nat):(List.replicate k xs).flatten.length=k*xs.length:=by
 induction k with
 | zero=>simp
 | succ k ih=>rw [List.replicate_succ,List.flatten_cons,List.length_append,ih,Nat.succ_mul,Nat.add_comm]
theorem aDJ:OpR X (binaryOp .Mult) aFd:=by
 intro pins s σ H x y v u Q I rx ry h
 obtain ⟨l,k,xs,rfl,rfl,hH,h1,h2,hz,q⟩:=h
 cases rx
 obtain ⟨t,rfl⟩:=ry
 obtain ⟨z,its,n,r,hl,e⟩:=I.lstM hH
 have hlen:its.toArray.size*k.toNat≤sizeLine:=by rw [List.size_toArray,← hl];exact hz
 have hcap:¬ its.toArray.size*k.toNat > (2 ^ 63 - 1) / 8:=by
  have:(sizeLine:Nat)≤(2 ^ 63 - 1) / 8:=by decide
  omega
 have hfit:¬ (!Builtin.List.listFitsIndex k)=true:=by
  rw [fitsIndex_both h1 h2]
  exact Bool.false_ne_true
 have hlong:¬ Builtin.List.listTooLong (its.toArray.size*k.toNat)=true:=by
  rw [pF hlen]
  exact Bool.false_ne_true
 have hnew:List.foldl (fun x1 x2=>x1++x2) #[] (List.replicate (if its.toArray.isEmpty=true then 0 else k.toNat) its.toArray)=(List.replicate k.toNat its).flatten.toArray:=by
  have f0:∀ m:Nat,List.foldl (fun x1 x2=>x1++x2) #[] (List.replicate m its.toArray)=(List.replicate m its).flatten.toArray:=fun m=>by
   have:=rJ its m []
   rw [List.nil_append] at this
   exact this
  rw [f0]
  cases its with
  | nil=>simp
  | cons a r'=>rw [if_neg (by simp)]
 refine wpAny_binaryOp_repeat_ref (T:="list") (U:="int") (by decide) ⟨_,e,rfl⟩ (fun s'=>typeIs_int s' k t) noFill_list_mul F.fills_int_mul F.slot_int_rmul repeat_list F.slot_int_index.lookup
  (call_meets F.slot_int_rmul (typeIs_int s k t) F.entry_int_rmul (F.args_int_rmul_2 _ _) (int___rmul___int_list k t l its.toArray n)
   ⟨e,rfl,⟨_,e,rfl⟩,call_meets F.slot_list_mul ⟨_,e,rfl⟩ F.entry_list_mul (F.args_list_mul_2 _ _) (AutoListH.list___mul___list_int_3 l its.toArray n k t hfit hcap hlong) ⟨e,?_⟩⟩)
 rw [hnew]
 exact ⟨.ref _,_,I.lnew (t':=s.toks) (r.rep k.toNat) (by rw [aBF,Nat.mul_comm];exact hz),rfl,q _ I.fresh⟩
end
section
variable {prog:Program}{w:World}{A:Around}{E:Value→Shared→Prop}{s:Shared}
end
section
variable {X:Cx}
end
end L2
namespace Att
open PySem PySem.W PySem.Calls PyProof.Rows
theorem mR {P:Params}{h:Heap}:∀ (ns:List Int) (vs:List Value),WellAll P h vs (ns.map WData.int)→IntsAre vs ns:=by
 intro ns
 induction ns with
 | nil=>
  intro vs w
  rw [List.map_nil] at w
  cases w
  exact .nil
 | cons n ns ih=>
  intro vs w
  rw [List.map_cons] at w
  cases w with
  | cons a b=>
   cases a
   exact .cons _ _ (ih _ b)
theorem yG {l:OpenLaw}{n:Nat}(hn:l.most=some n){P:Params}{h:Heap}{args:List WData}{vals:List Value}
  (hpre:l.row.toRowW.claim.pre args=true) (hwl:WellAll P h vals args) :
  ∃ a vs ns,vals=[Value.ref a]∧args=[WData.list (ns.map WData.int)]∧h.get? a=some { cls := .type "list",data := .seq vs.toArray }∧IntsAre vs ns∧ns.length≤n:=by
 have hsh:WShape.hasAll [] args [.list .int]=true:=(pre_splitW hpre).1
 have hc:l.pre.holds [] { args:=args }=true:=(pre_splitW hpre).2
 obtain ⟨d,r,rfl,h1,h2⟩:=hasAllW_cons hsh
 obtain rfl:=hasAllW_nil h2
 obtain ⟨xs,rfl,h3⟩:=hasW_list h1
 obtain ⟨ns,rfl⟩:=items_int h3
 have hlen:ns.length≤n:=by
  unfold OpenLaw.pre at hc
  have h4:(WTm.not (.lt (.lit (.int (n:Int))) (.len (.arg 0)))).holds [] { args:=[.list (ns.map .int)] }=true:=by
   have h4:=(holds_andW hc).1
   rw [hn] at h4
   exact h4
  have h5:=condW_of h4 (w_not (w_lt w_lit (w_len_list (w_arg rfl))))
  rw [List.length_map] at h5
  refine Nat.le_of_not_lt fun q=>?_
  have q':(n:Int)<((ns.length:Nat):Int):=by omega
  first
   | (rw [decide_eq_true q'] at h5;exact absurd h5 (by decide))
   | (simp at h5;omega)
 cases hwl with
 | cons w1 w2=>
  cases w2
  cases w1 with
  | list ho hall=>exact ⟨_,_,ns,rfl,rfl,ho,mR ns _ hall,hlen⟩
theorem wP (l:OpenLaw)(args:List WData):l.row.toRowW.claim.post args (.bool true) args=true:=
 postW_of (r:=l.row.toRowW) (X:=(true == true))
  (show WShape.has [] (.bool true) .bool=true by first | rfl | decide | simp [WShape.has,WShape.arms,WShape.armsAll])
  (show (WTm.eq .res (.lit (.bool true))).value [] { args:=args,res:=some (.bool true),after:=args }=some (.bool (true == true)) from w_eq_bool (w_res rfl) w_lit) rfl
theorem attach_call {l:OpenLaw}{n:Nat}{q:Program}{loose:List Str}{XP:(Str→Option Value)→Heap→Prop}{YP:World→Heap→Prop}{d:DefRec}
  (hn:l.most=some n) (hdf:d.params.defaults=[])
  (call:∀ (w:World) (s₀ s₁:Shared) (mg mb:Str→Option Value) (fa:Addr) (o:Obj) (pm cd doc:Value) (a:Addr) (vs:List Value) (ns:List Int),
   Ground q loose [] XP w s₀ mg mb s₁.heap→YP w s₁.heap →
   s₁.heap.get? fa=some o→o.data = .func (docDef d.name d.params d.body d.scope pm cd doc)→s₁.heap.CodeRec cd d.name→mg d.name=some (.ref fa) →
   s₁.heap.get? a=some { cls := .type "list",data := .seq vs.toArray }→IntsAre vs ns→ns.length≤n→s₁.gens=#[] →
   codeAny (model l.prog w) callerA (.call (.ref fa) ⟨[.ref a],[]⟩) (fun r s'=>r = .ok (.ret (.bool true))∧OldK s₁.heap s'.heap∧s'.os=s₁.os∧AllBare s'.gens) s₁) :
  WalkO q loose XP YP l.row.toRowW d [] (fun f vs=>PySem.call f vs):=by
 intro w s₀ s₁ mg mb G Y fa o pm cd doc dV kV ho hd hcd hD hmg hg args vals as hpre hlay hrd hwl hlo
 obtain rfl:dV = .none:=Dflts.none hD hdf
 obtain rfl:kV = .none:=Dflts.noKw hD
 obtain ⟨a,vs,ns,rfl,rfl,hobj,hints,hlen⟩:=yG hn hpre hwl
 refine enter_call (codeAny_mono (call w s₀ s₁ mg mb fa o pm cd doc a vs ns G Y ho (fd_plain hd) hcd hmg hobj hints hlen hg) fun r s' hq=>?_)
 obtain ⟨rfl,h2,h3,h4⟩:=hq
 exact ⟨.inl ⟨.bool true, .bool true,[],rfl,fun _=>rfl, .bool true,wP l _,fun _=>⟨List.Pairwise.nil,fun _ hm=>(nomatch hm)⟩⟩,h2,h3,h4⟩
section
variable {prog:Program}{w:World}{A:Around}{E:Value→Shared→Prop}{s:Shared}{K:Frag}
end
end Att
namespace L2
open PySem PySem.Spec PyProof.Rows
theorem qZ:∀ {vs:List Value} {ns:List Int},IntsAre vs ns→Vals (ns.map V.int) vs
 | _,_, .nil => .nil
 | _,_, .cons n t h => .cons ⟨t,rfl⟩ (qZ h)
end L2
namespace L2
open PySem PySem.Spec PyProof.Rows
end L2
namespace L2
open PySem PySem.Spec PyProof.Rows
noncomputable def aY (s:Stmt):Arguments:=match s with
 | .FunctionDef _ a _ _ _ _ _ _ _ _=>a
 | _=>{ posonlyargs:=[],args:=[],vararg:=none,kwonlyargs:=[],kw_defaults:=[],kwarg:=none,defaults:=[] }
noncomputable def aT (s:Stmt):List Stmt:=match s with
 | .FunctionDef _ _ b _ _ _ _ _ _ _=>b
 | _=>[]
noncomputable def aG (s:Stmt):Scope:=match s with
 | .FunctionDef _ _ _ _ _ _ sc _ _ _=>sc
 | _=>{ kind := .function,names:=[],isGenerator:=false,isCoroutine:=false }
noncomputable abbrev CX0:CXT:=fun _ _ _ _ _ _=>False
noncomputable abbrev E0:XK:=fun _ _ _=>False
theorem aEU {X:Cx}:vY CX0 X E0:=fun _ _ _ _ _ _ _ h=>h.elim
structure Fun (K:PySem.W.Frag)(x qual:Str)(st:Stmt)(f:Addr)(fd:FuncData):Prop where
 ex:∃ (oc:Value) (od:Option Addr) (kV doc pm:Value) (an:Option Addr) (cdv ct:Value) (osl:Array (Option Value)),
  fd=PySem.W.fnOf x qual (aY st) (aT st) (aG st) .none kV doc pm an cdv ct∧K.lookup f=some ⟨oc,od, .func fd,osl⟩∧PySem.W.codeIn K cdv qual=true
 kp:PySem.W.keepIn K (.ref f)=true
section
variable {P:Program}{w:World}{K:PySem.W.Frag}{mg:Str→Option Value}{base:Heap}
theorem Fun.ok {x qual:Str}{st:Stmt}{f:Addr}{fd:FuncData}{N ps:List Str}{k:Nat}{sp:Sp}(F:Fun K x qual st f fd)(S:bA N ps (aG st))(len:∀ vs H Q E,sp vs H Q E→vs.length=ps.length)
  (hbody:∀ (cdv:Value) (A:Around) (outer:List Env) (s:Shared) (H:Hp) (vs:List V) (Q:VK) (E:XK),Room k (A.deeper (envOfC qual (aG st) s.heap.objs.size f cdv))→sp vs H Q E →
   ∃ t,PSs (aCp CX0 P w K mg base N qual (aG st) f cdv A outer s H E).nox (aT st) t∧t { nx:=fun _ H'=>Q .non H',rt:=Q } (bB N vs) H):FnOk P w K mg base CX0 (k+1) f fd ps sp:=by
 obtain ⟨oc,od,kV,doc,pm,an,cdv,ct,osl,rfl,lk,hcd⟩:=F.ex
 refine aDs lk hcd S len fun A outer s H vs Q E hr hsp=>?_
 obtain ⟨t,h,q⟩:=hbody cdv A outer s H vs Q E hr hsp
 exact ⟨t,h.nox,q⟩
theorem Fun.binds {x qual:Str}{st:Stmt}{f:Addr}{fd:FuncData}{ps:List Str}(F:Fun K x qual st f fd)
  (h:∀ (kV doc pm:Value) (an:Option Addr) (cdv ct:Value) (us:List Value),us.length=ps.length→bindArgs (PySem.W.fnOf x qual (aY st) (aT st) (aG st) .none kV doc pm an cdv ct) ⟨us,[]⟩=pure (ps.zip us)):Binds K fd ps []:=by
 obtain ⟨oc,od,kV,doc,pm,an,cdv,ct,osl,rfl,lk,hcd⟩:=F.ex
 exact .all (h kV doc pm an cdv ct)
theorem bU {x qual:Str}{st:Stmt}{f:Addr}{oc:Value}{od an:Option Addr}{osl:Array (Option Value)}{kV doc pm cdv ct:Value}(l:K.lookup f=some ⟨oc,od, .func (PySem.W.fnOf x qual (aY st) (aT st) (aG st) .none kV doc pm an cdv ct),osl⟩)
  (c:PySem.W.codeIn K cdv qual=true) (k:PySem.W.keepIn K (.ref f)=true):Fun K x qual st f (PySem.W.fnOf x qual (aY st) (aT st) (aG st) .none kV doc pm an cdv ct):=⟨⟨oc,od,kV,doc,pm,an,cdv,ct,osl,rfl,l,c⟩,k⟩
end
section
variable {X:Cx}
theorem pv (i:Nat){x:Str}{pos:Pos}(hN:X.N[i]?=some x:=by rfl)(hv:Vis X.env.scope x:=by first | exact Or.inl rfl | exact Or.inr (Or.inl rfl) | exact Or.inr (Or.inr rfl))(hd:(x == ("__debug__" : Str))=false:=by decide)
  (hcd:(x == ("__classdict__" : Str))=false:=by decide):PE X (.Name x pos) (aF i):=aDi hN hv hd hcd
end
theorem aDA {A B:Prop}(h:B):if false=true then A else B:=by
 rw [if_neg Bool.false_ne_true]
 exact h
theorem aEy {A B:Prop}(h:A):if true=true then A else B:=by
 rw [if_pos rfl]
 exact h
theorem aFr {c A B:Prop}[Decidable c](h1:c→A)(h2:¬ c→B):if c then A else B:=by
 by_cases h:c
 ·rw [if_pos h]
  exact h1 h
 ·rw [if_neg h]
  exact h2 h
noncomputable def Same (H H':Hp):Prop:=∀ b o,H b=some o→H' b=some o
theorem Same.refl (H:Hp):Same H H:=fun _ _ h=>h
theorem Same.trans {H H1 H2:Hp}(a:Same H H1)(b:Same H1 H2):Same H H2:=fun c o h=>b c o (a c o h)
theorem Same.free {H H':Hp}(e:Same H H'){l:Addr}(h:H' l=Option.none):H l=Option.none:=by
 cases q:H l with
 | none=>rfl
 | some o=>
  rw [e l o q] at h
  cases h
theorem Same.seq {K:PySem.W.Frag}{H H':Hp}{a:Addr}{xs:List V}(e:Same H H')(h:SqL K H a xs):SqL K H' a xs:=by
 rcases h with (h | ⟨o,h⟩) | h
 ·exact .inl (.inl (e _ _ h))
 ·exact .inl (.inr ⟨o,e _ _ h⟩)
 ·exact .inr h
end L2
namespace L2
open PySem PySem.Spec PyProof.Rows
section
variable {κ:Type}[DecidableEq κ]
noncomputable def aEk (kvs:List (κ × V)) (k:κ):Option V:=(kvs.find? fun kv=>decide (kv.1=k)).map (·.2)
noncomputable def aEh (kvs:List (κ × V)) (k:κ) (v:V):List (κ × V):=
 if (kvs.any fun kv=>decide (kv.1=k))=true then kvs.map (fun kv=>if kv.1=k then (kv.1,v) else kv) else kvs++[(k,v)]
theorem KV.length {kvs:List (κ × V)}{vs:List (κ × Value)}(r:KV kvs vs):kvs.length=vs.length:=Paired.length r
end
section
variable {P:Program}{w:World}{H:Hp}{h:Heap}{a:Addr}
end
noncomputable def DGet (H:Hp) (a:Addr) (y:V) (r:Option V):Prop:=
 (∃ kvs k,Rd H a (.dK kvs)∧y=kV k∧r=aEk kvs k)∨∃ kvs k b,Rd H a (.dT kvs)∧y = .ref b∧H b=some (.tup (k.map kV))∧r=aEk kvs k
noncomputable def DPut (H:Hp) (a:Addr) (y v:V) (H':Hp):Prop:=
 (∃ kvs k,H a=some (.dK kvs)∧y=kV k∧kvs.length<sizeLine∧H'=upd H a (.dK (aEh kvs k v))) ∨
 ∃ kvs k b,H a=some (.dT kvs)∧y = .ref b∧H b=some (.tup (k.map kV))∧kvs.length<sizeLine∧H'=upd H a (.dT (aEh kvs k v))
theorem DGet.k {H:Hp}{a:Addr}{kvs:List (Key × V)}{k:Key}(e:H a=some (.dK kvs)):DGet H a (kV k) (aEk kvs k) := .inl ⟨kvs,k, .inl e,rfl,rfl⟩
theorem DGet.t {H:Hp}{a b:Addr}{kvs:List (List Key × V)}{k:List Key}(e:H a=some (.dT kvs))(eb:H b=some (.tup (k.map kV))):DGet H a (.ref b) (aEk kvs k) := .inr ⟨kvs,k,b, .inl e,rfl,eb,rfl⟩
theorem DPut.k {H:Hp}{a:Addr}{kvs:List (Key × V)}{k:Key}{v:V}(e:H a=some (.dK kvs))(hl:kvs.length<sizeLine):DPut H a (kV k) v (upd H a (.dK (aEh kvs k v))) := .inl ⟨kvs,k,e,rfl,hl,rfl⟩
theorem DPut.t {H:Hp}{a b:Addr}{kvs:List (List Key × V)}{k:List Key}{v:V}(e:H a=some (.dT kvs))(eb:H b=some (.tup (k.map kV)))(hl:kvs.length<sizeLine) :
  DPut H a (.ref b) v (upd H a (.dT (aEh kvs k v))) := .inr ⟨kvs,k,b,e,rfl,eb,hl,rfl⟩
section
variable {X:Cx}{pins:List (Addr × Obj)}{σ:St}{H:Hp}{s:Shared}{a:Addr}{y v:V}{u r:Value}{o:Option V}{A:Around}{E:Value→Shared→Prop}
theorem Inv.big (I:Inv X pins σ H s):sysModules<s.heap.objs.size:=by
 have h:mainGlobals<s.heap.objs.size:=(I.mod.glob.keeps I.bk).lt
 exact Nat.lt_trans (by decide) h
theorem aBL {h':Heap}{t':Nat}{ob:HO}(I:Inv X pins σ H s)(mu:Mut (H a))(hs:Heap.SameBut a s.heap h')(he:∃ q,h'.get? a=some q)(new:ObjOk X.prog X.w (upd H a ob) h' a ob) :
  Inv X pins σ (upd H a ob) { s with heap:=h',toks:=t' }:=
 I.write (x:=a) (e:=a) mu (.inl rfl) (fun b q hb z=>(hs.2 b hb).trans z) he new
end
section
variable {X:Cx}{pins:List (Addr × Obj)}{σ:St}{H:Hp}{s:Shared}{a:Addr}{kvs:List (Key × V)}{k:Key}{u:Value}{A:Around}{E:Value→Shared→Prop}
end
noncomputable def aFj (i:Expr):Prop:=∀ ov iv,subscripted i false ov iv=operate [ov,iv] (getItem ov iv)
theorem aCj {prog:Program}{w:World}{A:Around}{E:Value→Shared→Prop}{s:Shared}{env:Env}{value slice:Expr}{pos:Pos}{T id:String}{Q:Value→Shared→Prop}
  (hl:typeLookup (.type T) "__getitem__" = pure (some (.builtin id))) (hs:aFj slice)
  (h:wpAny (model prog w) A (eval value env) (fun o s₁=>wpAny (model prog w) A (eval slice env) (fun i s₂=>s₂.TypeIs o T∧wpAny (model prog w) A (getItem o i) Q E s₂) E s₁) E s) :
  wpAny (model prog w) A (eval (.Subscript value slice pos) env) Q E s:=by
 refine Subscript_ (wpAny_mono h (fun o s₁ h₁=>wpAny_mono h₁ (fun i s₂ h₂=>?_) fun _ _ x=>x) fun _ _ x=>x)
 obtain ⟨hT,h₂⟩:=h₂
 unfold subscriptTail
 refine wpAny_bind ?_
 rw [getitemInPython_of_ne hT.not_modules]
 refine wpAny_bind (wpAny_specialOf hT hl ?_)
 have fin:wpAny (model prog w) A (subscripted slice false o i) (fun r s₃=>wpAny (model prog w) A (letTemporaryGo value o r >>= fun _=>pure r) Q E s₃) E s₂:=by
  rw [hs o i]
  exact wpAny_operating (wpAny_mono h₂ (fun r s₃ h₃=>wpAny_bind (wpAny_letTemporaryGo (wpAny_pure h₃))) fun _ _ x=>x)
 first
  | exact wpAny_pure (wpAny_bind fin)
  | exact wpAny_bind (wpAny_pure (wpAny_bind fin))
  | exact wpAny_bind fin
section
variable {X:Cx}{o i e value:Expr}{pos pos' tpos:Pos}{td ty tv:TE}
end
section
variable {X:Cx}{pos:Pos}
end
section
variable {X:Cx}{pins:List (Addr × Obj)}{σ:St}{H:Hp}{s:Shared}{a:Addr}{y d:V}{u r:Value}{o:Option V}{A:Around}{E:Value→Shared→Prop}
end
section
variable {X:Cx}{o e f:Expr}{apos cpos:Pos}{td ty tx:TE}
end
section
variable {X:Cx}{pins:List (Addr × Obj)}{σ:St}{H:Hp}{s:Shared}{a:Addr}{kvs:List (Key × V)}{A:Around}{E:Value→Shared→Prop}
end
section
variable {X:Cx}{pins:List (Addr × Obj)}{σ:St}{H:Hp}{s:Shared}{a:Addr}{y:V}{u:Value}{A:Around}{E:Value→Shared→Prop}
end
end L2
namespace L2
open PySem PySem.Spec PyProof.Rows
section
variable {X:Cx}
end
end L2
namespace L2
open PySem PySem.Spec PyProof.Rows
section
variable {κ:Type}[DecidableEq κ]
theorem wZ:∀ {l:List κ} {k:κ},l.Nodup→¬ k∈l→(l++[k]).Nodup
 | [],k,_,_=>by simp
 | a :: r,k,h,hk=>by
  obtain ⟨h1,h2⟩:=List.nodup_cons.mp h
  show (a :: (r++[k])).Nodup
  refine List.nodup_cons.mpr ⟨fun m=>?_,wZ h2 fun m=>hk (List.mem_cons.mpr (Or.inr m))⟩
  rcases List.mem_append.mp m with q | q
  ·exact h1 q
  ·exact hk (List.mem_cons.mpr (Or.inl (List.mem_singleton.mp q).symm))
end
end L2
namespace L2
open PySem PySem.Spec PyProof.Rows
noncomputable def fK (J:It) (g:TG) (tb:TS):TS:=fun D σ H=>∃ W:Nat→Nat→St→Hp→Prop,(∃ m,W 0 m σ H)∧∀ i m σ H,W i m σ H →
 (J.stop i H∧D.nx σ H)∨(J.go i H∧∃ N:St→Hp→Prop,(∀ σ' H',N σ' H'→∃ m',m'<m∧W (i+1) m' σ' H')∧∀ x H',J.yld i H x H'→g x σ H' fun σ2 H2=>tb { D with nx:=N,ct:=N,bk:=D.nx } σ2 H2)
noncomputable def uJ (elt:Expr) (gens:List Comprehension) (scope:Scope) (pos:Pos) (d:Nat) (acc:Value) (env:Env) (k:Sem Fin):Sem Fin:=
 match gens[d+1]? with
 | some g'=>eval g'.iter env >>= fun x=>standAt g'.iter.pos >>= fun _=>foldedSetIterable g'.iter env x >>= fun x=>holding [x] (pyIter x) >>= fun i=>
   runOwn (.compStart (.ListComp elt gens scope pos) (d+1) i acc env) env >>= fun _=>k
 | none=>(eval elt env >>= fun x=>call (.builtin "list.append") [acc,x] >>= fun _=>pure ()) >>= fun _=>k
theorem sK {elt target iter:Expr}{ifs:List Expr}{gens:List Comprehension}{scope:Scope}{pos:Pos}{d:Nat}(it acc:Value)(env:Env)(hg:gens[d]?=some ⟨target,iter,ifs,0⟩)
  (hn:∀ g',gens[d+1]?=some g'→g'.is_async=0) :
  compTurn (.ListComp elt gens scope pos) d it acc env=(standAt iter.pos >>= fun _=>pyNext it >>= fun r=>match r with
   | none=>pure (.done .next)
   | some v=>letOwnedTupleGo target it v >>= fun _=>assign target env v >>= fun _=>
    (forIn ifs true fun c r=>if r=true then do let ok ← isTrue c env (eval c env);pure (ForInStep.yield ok) else pure (ForInStep.yield r)) >>= fun ok=>
     if ok=true then uJ elt gens scope pos d acc env (again (.compLoop (.ListComp elt gens scope pos) d it acc env))
     else again (.compLoop (.ListComp elt gens scope pos) d it acc env)):=by
 unfold compTurn uJ
 simp only [hg]
 cases h:gens[d+1]? with
 | none=>rfl
 | some g'=>
  obtain ⟨t',i',f',a'⟩:=g'
  have e:a'=0:=hn _ h
  subst e
  rfl
noncomputable def kR:List TT→TS→TS
 | [],tb=>tb
 | c :: r,tb=>mY c (kR r tb) aO
inductive PTs (X:Cx):List Expr→List TT→Prop
 | nil:PTs X [] []
 | cons {c:Expr} {cs:List Expr} {t:TT} {ts:List TT}:PT X c t→PTs X cs ts→PTs X (c :: cs) (t :: ts)
section
variable {X:Cx}
theorem sC {cs:List Expr}{s:Shared}{Q:Bool→Shared→Prop}{E:Value→Shared→Prop}(h:Q false s) :
  wpAny (model X.prog X.w) X.A (forIn cs false fun c r=>if r=true then do let ok ← isTrue c X.env (eval c X.env);pure (ForInStep.yield ok) else pure (ForInStep.yield r)) Q E s:=by
 induction cs with
 | nil=>rw [List.forIn_nil];exact wpAny_pure h
 | cons c cs ih=>
  rw [List.forIn_cons,if_neg Bool.false_ne_true]
  exact wpAny_bind (wpAny_pure ih)
theorem qW {tb:TS}{D:iE}{pins:List (Addr × Obj)}:∀ {cs:List Expr} {ts:List TT},PTs X cs ts→∀ {s:Shared} {σ:St} {H:Hp},Inv X pins σ H s→kR ts tb D σ H →
  wpAny (model X.prog X.w) X.A (forIn cs true fun c r=>if r=true then do let ok ← isTrue c X.env (eval c X.env);pure (ForInStep.yield ok) else pure (ForInStep.yield r))
   (fun ok s'=>∃ H',Inv X pins σ H' s'∧if ok=true then tb D σ H' else D.nx σ H') X.xe s
 | _,_, .nil,s,σ,H,I,h=>by rw [List.forIn_nil];exact wpAny_pure ⟨H,I,by rw [if_pos rfl];exact h⟩
 | _,_, .cons (cs:=cs) hc hr,s,σ,H,I,h=>by
  rw [List.forIn_cons,if_pos rfl]
  refine wpAny_bind (wpAny_bind (thn (hc pins s σ H _ I h) fun b s1 ⟨H1,I1,q1⟩=>wpAny_pure ?_))
  cases b with
  | true=>
   rw [if_pos rfl] at q1
   exact qW hr I1 q1
  | false=>
   rw [if_neg Bool.false_ne_true] at q1
   exact sC ⟨H1,I1,by rw [if_neg Bool.false_ne_true];exact q1⟩
end
noncomputable def PB (X:Cx) (elt:Expr) (gens:List Comprehension) (scope:Scope) (pos:Pos) (d:Nat) (acc:Addr) (t:TS):Prop:=
 ∀ (pins:List (Addr × Obj)) (s:Shared) (σ:St) (H:Hp) (D:iE) (k:Sem Fin) (Q:Fin→Shared→Prop) (E:Value→Shared→Prop),Inv X pins σ H s→t D σ H →
  (∀ s' σ' H',Inv X pins σ' H' s'→D.nx σ' H'→wpAny (model X.prog X.w) X.A k Q E s')→wpAny (model X.prog X.w) X.A (uJ elt gens scope pos d (.ref acc) X.env k) Q E s
noncomputable def dO (te:TE) (acc:Addr):TS:=fun D σ H=>te σ H fun x H1=>∃ xs,H1 acc=some (.lst xs)∧xs.length<sizeLine∧D.nx σ (upd H1 acc (.lst (xs++[x])))
section
variable {X:Cx}
theorem dC {elt:Expr}{gens:List Comprehension}{scope:Scope}{pos:Pos}{d:Nat}{acc:Addr}{te:TE}(hx:X.xe=fun _ _=>False)(he:PE X elt te)(hl:gens[d+1]?=none):PB X elt gens scope pos d acc (dO te acc):=by
 intro pins s σ H D k Q E I h hk
 unfold uJ
 rw [hl]
 refine wpAny_bind (wpAny_bind (wpAny_mono (he pins s σ H _ I h) (fun v s1 ⟨x,H1,I1,r1,xs,ha,hz,q⟩=>?_) fun _ _ z=>by rw [hx] at z;exact z.elim))
 have hm:=iK (X:=X) pins s1 σ H1 (.ref acc) [x] (.ref acc) [v] (fun v H'=>v = .non∧D.nx σ H') I1 rfl (.cons r1 .nil) ⟨acc,xs,x,rfl,rfl,ha,hz,rfl,q⟩
 refine wpAny_bind (wpAny_mono hm (fun _ s2 ⟨x2,H2,I2,r2,_,q2⟩=>wpAny_pure (hk s2 σ H2 I2 q2)) fun _ _ z=>by rw [hx] at z;exact z.elim)
theorem wW {elt target iter:Expr}{ifs:List Expr}{gens:List Comprehension}{scope:Scope}{pos:Pos}{d:Nat}{acc it:Addr}{fp:List Addr}{tn:Nat→Heap→Prop}{J:It}{g:TG}{ts:List TT}{tb:TS}{D:iE}{pins:List (Addr × Obj)}{s:Shared}{σ:St}{H:Hp}
  (hx:X.xe=fun _ _=>False) (hc:X.calm=true) (hgd:gens[d]?=some ⟨target,iter,ifs,0⟩) (hn:∀ g',gens[d+1]?=some g'→g'.is_async=0)
  (hg:PG X target g) (hts:PTs X ifs ts) (hb:PB X elt gens scope pos d acc tb)
  (T:aAt X.prog X.w X.K target J fp it tn) (I:Inv X pins σ H s) (st:tn 0 s.heap) (hf:∀ b∈fp,FpOk X pins H b) (h:fK J g (kR ts tb) D σ H) :
  codeAny (model X.prog X.w) X.A (.compStart (.ListComp elt gens scope pos) d (.ref it) (.ref acc) X.env) (fun r s'=>∃ f,r = .ok f∧∃ σ' H',Inv X pins σ' H' s'∧D.nx σ' H') s:=by
 have stat:∀ {H':Hp},(∀ b∈fp,H' b=none)→∀ b∈fp,FpOk X pins H' b:=fun hn b hb=>⟨hn b hb,(hf b hb).2⟩
 obtain ⟨W,⟨m0,w0⟩,turn⟩:=h
 have E0:∀ (e:Value) (s':Shared),X.xe e s'→notedBy (model X.prog X.w) X.A X.env (fun e s'=>∃ f,(Except.error e:Result) = .ok f∧∃ σ' H',Inv X pins σ' H' s'∧D.nx σ' H') e s':=fun e s' z=>by rw [hx] at z;exact z.elim
 have loop:codeAny (model X.prog X.w) X.A (.compLoop (.ListComp elt gens scope pos) d (.ref it) (.ref acc) X.env) (fun r s'=>∃ f,r = .ok f∧∃ σ' H',Inv X pins σ' H' s'∧D.nx σ' H') s:=by
  refine codeAny_loop rfl (fun n s'=>∃ i σ' H',Inv X pins σ' H' s'∧tn i s'.heap∧(∀ b∈fp,H' b=none)∧W i n σ' H') ?_ m0 ⟨0,σ,H,I,st,fun b hb=>(hf b hb).1,w0⟩
  rintro n s3 ⟨i,σ3,H3,I3,st3,fr3,w3⟩
  show wpAny _ X.A ((compTurn (.ListComp elt gens scope pos) d (.ref it) (.ref acc) X.env).onRaise (fun x=>do noteFrame x X.env;theTreesLotGoes x)) _ _ s3
  refine wpAny_noted ?_
  rw [sK _ _ _ hgd hn]
  refine wpAny_bind (wpAny_standAt (wpAny_bind ?_))
  rcases turn i n σ3 H3 w3 with ⟨stop,qn⟩ | ⟨go,N,hN,step⟩
  ·refine wpAny_mono (T.done X rfl rfl rfl hc i pins s3 σ3 H3 (fun _ _=>False) I3 (stat fr3) st3 stop) (fun r s4 ⟨hr,I4⟩=>?_) (fun _ _ z=>z.elim)
   subst hr
   exact wpAny_pure ⟨.next,rfl,σ3,H3,I4,qn⟩
  ·refine wpAny_mono (T.item X rfl rfl rfl hc i pins s3 σ3 H3 (fun _ _=>False) I3 (stat fr3) st3 go) (fun r s4 ⟨u,hr,h4⟩=>?_) (fun _ _ z=>z.elim)
   subst hr
   refine wpAny_bind (wpAny_mono h4 (fun _ s5 ⟨x,H5,I5,r5,y5,st5,fr5⟩=>?_) (fun _ _ z=>z.elim))
   have I5':=I5.pinned (stat fr5) (T.obj _ _ st5)
   refine wpAny_bind (wpAny_mono (hg _ s5 σ3 H5 x u _ I5' r5 (step x H5 y5)) (fun _ s6 ⟨σ6,H6,I6,q6⟩=>?_) E0)
   refine wpAny_bind (wpAny_mono (qW hts I6 q6) (fun ok s7 ⟨H7,I7,q7⟩=>?_) E0)
   have again:∀ {σ7:St} {H7:Hp} {s7:Shared},Inv X (pins++qU fp s5.heap) σ7 H7 s7→N σ7 H7→∃ m,m<n∧∃ i σ' H',Inv X pins σ' H' s7∧tn i s7.heap∧(∀ b∈fp,H' b=none)∧W i m σ' H':=fun {σ7 H7 s7} I7 n7=>by
    obtain ⟨m',hm,w7⟩:=hN σ7 H7 n7
    refine ⟨m',hm,i+1,σ7,H7,I7.unpinned,T.keep _ _ _ st5 fun b hb o e=>(I7.pin (b,o) (List.mem_append_right _ (List.mem_append_right _ (gM hb e)))).1,fun b hb=>?_,w7⟩
    obtain ⟨o,e,d⟩:=T.obj _ _ st5 b hb
    exact (I7.pin (b,o) (List.mem_append_right _ (List.mem_append_right _ (gM hb e)))).2.1
   cases ok with
   | false=>
    rw [if_neg Bool.false_ne_true] at q7 ⊢
    exact wpAny_pure ⟨rfl,again I7 q7⟩
   | true=>
    rw [if_pos rfl] at q7 ⊢
    exact hb _ s7 σ6 H7 _ _ _ _ I7 q7 fun s8 σ8 H8 I8 q8=>wpAny_pure ⟨rfl,again I8 q8⟩
 refine codeAny_of_tree ?_
 show wpAny _ _ ((compStart (.ListComp elt gens scope pos) d (.ref it) (.ref acc) X.env).onRaise (fun x=>do noteFrame x X.env;standAt theWindowsPlace)) _ _ s
 refine wpAny_notedAt ?_
 have hcl:clausesOf (.ListComp elt gens scope pos)=gens:=rfl
 unfold compStart
 rw [hcl,hgd]
 show wpAny _ _ (ask >>= _) _ _ s
 refine wpAny_bind (wpAny_askSetting (wpAny_ite ?_))
 split
 ·first
   | exact wpAny_bind (wpAny_pure (wpAny_pure (And.intro rfl loop)))
   | exact wpAny_pure (And.intro rfl loop)
 ·refine wpAny_bind (wpAny_rule ?_)
  show wpAny _ _ (standAt iter.pos >>= _) _ _ s
  exact wpAny_bind (wpAny_standAt (wpAny_bind (T.self X.A 0 s _ _ st (wpAny_pure (And.intro rfl loop)))))
end
end L2
namespace L2
open PySem PySem.Spec PyProof.Rows
noncomputable def dP (cells:List (Str × Addr)):List (Str × NameKind)→List (Str × Addr)→List (Str × Addr)
 | [],acc=>acc
 | (n,k) :: r,acc=>if k == .free then dP cells r ((n,(cells.lookup n).getD 0) :: acc) else dP cells r acc
theorem nE {scope:Scope}{env:Env}(h:∀ x∈scope.names,x.2 = .free→(env.cells.lookup x.1).isSome=true):closureFor scope env=pure (dP env.cells scope.names []):=by
 have go:∀ (names:List (Str × NameKind)) (acc:List (Str × Addr)),(∀ x∈names,x.2 = .free→(env.cells.lookup x.1).isSome=true) →
   (forIn names acc fun x (r:List (Str × Addr))=>if x.2 == NameKind.free then (do let c ← cellOf env x.1;pure (ForInStep.yield ((x.1,c) :: r))) else pure (ForInStep.yield r):Sem (List (Str × Addr)))=pure (dP env.cells names acc):=by
  intro names
  induction names with
  | nil=>intro acc _;rw [List.forIn_nil];rfl
  | cons x r ih=>
   intro acc hh
   obtain ⟨n,k⟩:=x
   rw [List.forIn_cons]
   unfold dP
   cases hk:k == NameKind.free with
   | false=>
    rw [if_neg Bool.false_ne_true,if_neg Bool.false_ne_true]
    exact ih acc fun y hy=>hh y (List.mem_cons_of_mem _ hy)
   | true=>
    rw [if_pos rfl,if_pos rfl]
    obtain ⟨c,hc⟩:=Option.isSome_iff_exists.mp (hh (n,k) List.mem_cons_self (by simpa using hk))
    have e:cellOf env n=pure c:=by
     unfold cellOf
     rw [show env.cells.lookup n=some c from hc]
    show (do let x ← (do let c ← cellOf env n;pure (ForInStep.yield ((n,c) :: acc)));_)=_
    rw [e]
    rw [show ((env.cells.lookup n).getD 0)=c by rw [show env.cells.lookup n=some c from hc];rfl]
    exact ih ((n,c) :: acc) fun y hy=>hh y (List.mem_cons_of_mem _ hy)
 have:=go scope.names [] h
 unfold closureFor
 refine Eq.trans ?_ (congrArg (fun m=>m >>= fun r=>pure r) this |>.trans rfl)
 rfl
theorem lW {cells:List (Str × Addr)}{x:Str}:∀ (names:List (Str × NameKind)) (acc:List (Str × Addr)),(x,NameKind.free)∉names→(dP cells names acc).lookup x=acc.lookup x
 | [],_,_=>rfl
 | (n,k) :: r,acc,h=>by
  unfold dP
  have hr:(x,NameKind.free)∉r:=fun z=>h (List.mem_cons_of_mem _ z)
  cases hk:k == NameKind.free with
  | false=>rw [if_neg Bool.false_ne_true];exact lW r acc hr
  | true=>
   rw [if_pos rfl,lW r _ hr,List.lookup_cons]
   have e:k = .free:=by simpa using hk
   have ne:(x == n)=false:=by
    cases q:x == n with
    | false=>rfl
    | true=>exact absurd (by rw [beq_iff_eq.mp q,e];exact List.mem_cons_self) h
   rw [ne]
theorem kY {cells:List (Str × Addr)}{x:Str}{c:Addr}(hc:cells.lookup x=some c):∀ (names:List (Str × NameKind)) (acc:List (Str × Addr)),(x,NameKind.free)∈names→(dP cells names acc).lookup x=some c
 | [],_,h=>by simp at h
 | (n,k) :: r,acc,h=>by
  unfold dP
  by_cases hr:(x,NameKind.free)∈r
  ·cases hk:k == NameKind.free with
   | false=>rw [if_neg Bool.false_ne_true];exact kY hc r acc hr
   | true=>rw [if_pos rfl];exact kY hc r _ hr
  ·rcases List.mem_cons.mp h with e | e
   ·cases e
    rw [if_pos (by decide),lW r _ hr,List.lookup_cons]
    simp [hc]
   ·exact absurd e hr
theorem jU {cells:List (Str × Addr)}{x:Str}{c:Addr}:∀ (names:List (Str × NameKind)) (acc:List (Str × Addr)),(∀ y∈names,y.2 = .free→(cells.lookup y.1).isSome=true)→(x,c)∈dP cells names acc →
  (x,c)∈acc∨((x,NameKind.free)∈names∧cells.lookup x=some c)
 | [],_,_,h => .inl h
 | (n,k) :: r,acc,hh,h=>by
  unfold dP at h
  have hr:∀ y∈r,y.2 = .free→(cells.lookup y.1).isSome=true:=fun y hy=>hh y (List.mem_cons_of_mem _ hy)
  cases hk:k == NameKind.free with
  | false=>
   rw [hk,if_neg Bool.false_ne_true] at h
   exact (jU r acc hr h).imp id fun z=>⟨List.mem_cons_of_mem _ z.1,z.2⟩
  | true=>
   rw [hk,if_pos rfl] at h
   have ek:k = .free:=by simpa using hk
   rcases jU r _ hr h with z | z
   ·rcases List.mem_cons.mp z with z | z
    ·cases z
     obtain ⟨d,hd⟩:=Option.isSome_iff_exists.mp (hh (x,k) List.mem_cons_self ek)
     exact .inr ⟨by rw [ek];exact List.mem_cons_self,by rw [hd];rfl⟩
    ·exact .inl z
   ·exact .inr ⟨List.mem_cons_of_mem _ z.1,z.2⟩
theorem hX {cells:List (Str × Addr)}(inj:∀ x y c,cells.lookup x=some c→cells.lookup y=some c→x=y):∀ (names:List (Str × NameKind)) (acc:List (Str × Addr)),(names.map (·.1)).Nodup →
  (∀ y∈names,y.2 = .free→(cells.lookup y.1).isSome=true)→(∀ p∈acc,cells.lookup p.1=some p.2∧p.1∉names.map (·.1))→(acc.Pairwise fun x y=>x.2≠y.2)→(dP cells names acc).Pairwise fun x y=>x.2≠y.2
 | [],_,_,_,_,h=>h
 | (n,k) :: r,acc,nd,hh,ha,h=>by
  unfold dP
  have hr:∀ y∈r,y.2 = .free→(cells.lookup y.1).isSome=true:=fun y hy=>hh y (List.mem_cons_of_mem _ hy)
  obtain ⟨n1,n2⟩:=List.nodup_cons.mp nd
  cases hk:k == NameKind.free with
  | false=>
   rw [if_neg Bool.false_ne_true]
   exact hX inj r acc n2 hr (fun p hp=>⟨(ha p hp).1,fun z=>(ha p hp).2 (List.mem_cons_of_mem _ z)⟩) h
  | true=>
   rw [if_pos rfl]
   have ek:k = .free:=by simpa using hk
   obtain ⟨d,hd⟩:=Option.isSome_iff_exists.mp (hh (n,k) List.mem_cons_self ek)
   have hd':cells.lookup n=some d:=hd
   refine hX inj r _ n2 hr (fun p hp=>?_) (List.pairwise_cons.mpr ⟨fun p hp e=>?_,h⟩)
   ·rcases List.mem_cons.mp hp with e | hp
    ·subst e;exact ⟨by rw [hd'];rfl,n1⟩
    ·exact ⟨(ha p hp).1,fun z=>(ha p hp).2 (List.mem_cons_of_mem _ z)⟩
   ·rw [hd'] at e
    have e':d=p.2:=e
    have:n=p.1:=inj n p.1 d hd' (by rw [e'];exact (ha p hp).1)
    exact (ha p hp).2 (by rw [← this];exact List.mem_cons_self)
theorem eL {x:Str}{c:Addr}:∀ (names:List (Str × NameKind)) (n:Nat) (acc:List (Str × Addr)),(x,c)∈cellsFrom n names acc→(n≤c∧(x,NameKind.cell)∈names)∨(x,c)∈acc
 | [],_,_,h => .inr h
 | (y,k) :: r,n,acc,h=>by
  unfold cellsFrom at h
  cases hk:k == NameKind.cell with
  | false=>
   rw [hk,if_neg Bool.false_ne_true] at h
   exact (eL r n acc h).imp (fun z=>⟨z.1,List.mem_cons_of_mem _ z.2⟩) id
  | true=>
   rw [hk,if_pos rfl] at h
   have ek:k = .cell:=by simpa using hk
   rcases eL r (n+1) _ h with z | z
   ·exact .inl ⟨by omega,List.mem_cons_of_mem _ z.2⟩
   ·rcases List.mem_cons.mp z with z | z
    ·cases z
     exact .inl ⟨Nat.le_refl _,by rw [ek];exact List.mem_cons_self⟩
    ·exact .inr z
theorem dW:∀ (names:List (Str × NameKind)) (n:Nat) (acc:List (Str × Addr)),(∀ p∈acc,p.2<n)→(acc.Pairwise fun x y=>x.2≠y.2)→(cellsFrom n names acc).Pairwise fun x y=>x.2≠y.2
 | [],_,_,_,h=>h
 | (y,k) :: r,n,acc,hl,h=>by
  unfold cellsFrom
  cases hk:k == NameKind.cell with
  | false=>rw [if_neg Bool.false_ne_true];exact dW r n acc hl h
  | true=>
   rw [if_pos rfl]
   refine dW r (n+1) _ (fun p hp=>?_) (List.pairwise_cons.mpr ⟨fun p hp e=>?_,h⟩)
   ·rcases List.mem_cons.mp hp with e | hp
    ·subst e;exact Nat.lt_succ_self _
    ·exact Nat.lt_succ_of_lt (hl p hp)
   ·have e':n=p.2:=e
    exact Nat.lt_irrefl _ (e' ▸ hl p hp)
theorem fH {x:Str}:∀ (names:List (Str × NameKind)) (n:Nat) (acc:List (Str × Addr)),(x,NameKind.cell)∉names→(cellsFrom n names acc).lookup x=acc.lookup x
 | [],_,_,_=>rfl
 | (y,k) :: r,n,acc,h=>by
  unfold cellsFrom
  have hr:(x,NameKind.cell)∉r:=fun z=>h (List.mem_cons_of_mem _ z)
  cases hk:k == NameKind.cell with
  | false=>rw [if_neg Bool.false_ne_true];exact fH r n acc hr
  | true=>
   rw [if_pos rfl,fH r _ _ hr,List.lookup_cons]
   have e:k = .cell:=by simpa using hk
   have ne:(x == y)=false:=by
    cases q:x == y with
    | false=>rfl
    | true=>exact absurd (by rw [beq_iff_eq.mp q,e];exact List.mem_cons_self) h
   rw [ne]
theorem dR {x:Str}{c:Addr}:∀ (names:List (Str × NameKind)) (h:Heap) (acc:List (Str × Addr)),(x,c)∈cellsFrom h.objs.size names acc→(x,c)∈acc∨(pushCells h names).IsCell c none
 | [],_,_,hm => .inl hm
 | (y,k) :: r,h,acc,hm=>by
  unfold cellsFrom at hm
  unfold pushCells
  cases hk:k == NameKind.cell with
  | false=>
   rw [hk,if_neg Bool.false_ne_true] at hm
   rw [if_neg Bool.false_ne_true]
   exact dR r h acc hm
  | true=>
   rw [hk,if_pos rfl] at hm
   rw [if_pos rfl]
   have:=dR (x:=x) (c:=c) r (h.push { cls := .type "cell",data := .cell none }) ((y,h.objs.size) :: acc) (by rw [Heap.size_push];exact hm)
   rcases this with z | z
   ·rcases List.mem_cons.mp z with z | z
    ·cases z
     exact .inr ⟨_,pushCells_keeps r _ _ _ (Heap.get?_push_size _ rfl),rfl⟩
    ·exact .inl z
   ·exact .inr z
theorem cR {x:Str}{k:NameKind}:∀ {names:List (Str × NameKind)},(names.map (·.1)).Nodup→(x,k)∈names→names.lookup x=some k
 | [],_,h=>by simp at h
 | (y,j) :: r,nd,h=>by
  obtain ⟨n1,n2⟩:=List.nodup_cons.mp nd
  rw [List.lookup_cons]
  rcases List.mem_cons.mp h with e | e
  ·cases e;simp
  ·have ne:(x == y)=false:=by
    cases q:x == y with
    | false=>rfl
    | true=>exact absurd (List.mem_map.mpr ⟨(x,k),e,beq_iff_eq.mp q⟩) n1
   rw [ne]
   exact cR n2 e
theorem iV {scope:Scope}{env:Env}{x:Str}{k:NameKind}:(relabel scope env).names.lookup x=some k→(k = .cell∨k = .free)→scope.names.lookup x=some .cell∨scope.names.lookup x=some .free:=by
 unfold relabel
 show (scope.names.map _).lookup x=some k→_
 induction scope.names with
 | nil=>intro h;simp at h
 | cons p r ih=>
  obtain ⟨n,j⟩:=p
  intro h hk
  rw [List.map_cons] at h
  rw [List.lookup_cons]
  by_cases hc:(j == NameKind.free && env.scope.kind == .function && env.kindOf n == some .cell)=true
  ·simp only [hc,if_true] at h
   rw [List.lookup_cons] at h
   cases q:x == n with
   | true=>
    have:j = .free:=by
     have:=(Bool.and_eq_true_iff.mp (Bool.and_eq_true_iff.mp hc).1).1
     simpa using this
    simp [this]
   | false=>rw [q] at h;simpa using ih h hk
  ·simp only [hc,Bool.false_eq_true,if_false] at h
   rw [List.lookup_cons] at h
   cases q:x == n with
   | true=>
    rw [q] at h
    simp only [Option.some.injEq] at h
    subst h
    rcases hk with e | e <;> simp [e]
   | false=>rw [q] at h;simpa using ih h hk
theorem rD {scope:Scope}{env:Env}{x:Str}(hf:env.scope.kind = .function):scope.names.lookup x=some .free→(relabel scope env).names.lookup x=some .cell∨(relabel scope env).names.lookup x=some .free:=by
 unfold relabel
 show _→(scope.names.map _).lookup x=_∨(scope.names.map _).lookup x=_
 induction scope.names with
 | nil=>intro h;simp at h
 | cons p r ih=>
  obtain ⟨n,j⟩:=p
  intro h
  rw [List.lookup_cons] at h
  rw [List.map_cons]
  cases q:x == n with
  | true=>
   rw [q] at h
   simp only [Option.some.injEq] at h
   subst h
   by_cases hc:(NameKind.free == NameKind.free && env.scope.kind == .function && env.kindOf n == some .cell)=true
   ·left;simp only [hc,if_true];rw [List.lookup_cons,q]
   ·right;simp only [hc,Bool.false_eq_true,if_false];rw [List.lookup_cons,q]
  | false=>
   rw [q] at h
   by_cases hc:(j == NameKind.free && env.scope.kind == .function && env.kindOf n == some .cell)=true
   ·simp only [hc,if_true];rw [List.lookup_cons,q];exact ih h
   ·simp only [hc,Bool.false_eq_true,if_false];rw [List.lookup_cons,q];exact ih h
end L2
namespace L2
open PySem PySem.Spec PyProof.Rows
noncomputable def eF (X:Cx) (N:List Str) (scope:Scope) (s:Shared) (H:Hp) (fp:List Addr):Cx where
 prog:=X.prog
 w:=X.w
 K:=X.K
 mg:=X.mg
 base:=X.base
 A:=X.A
 N:=N
 s₀:=s
 H₀:=H
 env:=compEnvC scope (cellsFrom (s.heap.objs.size+1) scope.names (dP X.env.cells scope.names [])) s.heap.objs.size X.env
 outer:=X.stack
 stack:=X.stack
 ex:=fp
 fn:=fun x=>scope.names.lookup x == some .cell
 calm:=X.calm
 pn:=[]
 xe:=fun _ _=>False
noncomputable def aEs (σ:St):Option Nat→Option V
 | none=>none
 | some j=>(σ[j]?).join
noncomputable def jG (N:List Str) (names encl:List (Str × NameKind)) (N':List Str) (ix:List (Option Nat)):Bool:=
 decide ((names.map (·.1)).Nodup) && names.all (fun p=>!(p.2 == NameKind.free) || (encl.lookup p.1 == some NameKind.cell || encl.lookup p.1 == some NameKind.free)) && ix.length == N'.length &&
  ((N'.zip ix).all fun p=>match p.2 with
   | none=>true
   | some j=>N[j]? == some p.1 && names.lookup p.1 == some NameKind.free)
noncomputable def eV (ix:List (Option Nat)) (wi:TI) (g:TG) (ts:List TT) (tb:Addr→TS):TE:=fun σ H Q=>wi σ H fun J H1=>∀ acc,H1 acc=none →
 fK J g (kR ts (tb acc)) { nx:=fun _ H'=>Q (.ref acc) H',rt:=fun _ _=>False } (ix.map (aEs σ)) (upd H1 acc (.lst []))
section
variable {X:Cx}{elt target iter:Expr}{ifs:List Expr}{rest:List Comprehension}{scope:Scope}{pos:Pos}{N':List Str}{ix:List (Option Nat)}{wi:TI}{g:TG}{ts:List TT}{tb:Addr→TS}
theorem uV {pins:List (Addr × Obj)}{σ:St}{H:Hp}{s:Shared}{fp:List Addr}{Q:Env→Shared→Prop}{E:Value→Shared→Prop}(I:Inv X pins σ H s)(hok:jG X.N scope.names X.env.scope.names N' ix=true)(hk:scope.kind = .function)
  (hf:∀ b∈fp,FpOk X pins H b) (hfo:∀ b∈fp,∃ o,s.heap.get? b=some o)
  (h:∀ s',(∀ b o,s.heap.get? b=some o→s'.heap.get? b=some o)→Inv (eF X N' scope s H fp) [] (ix.map (aEs σ)) H s'→Q (newEnv scope s.heap.objs.size X.env.globals (cellsFrom (s.heap.objs.size+1) scope.names (dP X.env.cells scope.names [])) X.env.qual none .none (some X.env) builtinsNs) s') :
  wpAny (model X.prog X.w) X.A (newFunctionEnv scope X.env.globals (dP X.env.cells scope.names []) [] X.env.qual none .none (some X.env)) Q E s:=by
 have hok2:=hok
 simp only [jG,Bool.and_eq_true,decide_eq_true_eq,List.all_eq_true] at hok
 obtain ⟨⟨⟨nd,hfr⟩,hlen⟩,hix⟩:=hok
 have hlen:ix.length=N'.length:=by simpa using hlen
 have isF:∀ y∈scope.names,y.2 = .free→X.env.kindOf y.1=some .cell∨X.env.kindOf y.1=some .free:=fun y hy e=>by
  have:=hfr y hy
  have:X.env.scope.names.lookup y.1=some .cell∨X.env.scope.names.lookup y.1=some .free:=by simpa [e] using this
  exact this
 have hasC:∀ y∈scope.names,y.2 = .free→(X.env.cells.lookup y.1).isSome=true:=fun y hy e=>by
  obtain ⟨c,hc⟩:=I.ok.has y.1 (isF y hy e)
  rw [hc];rfl
 have oldC:∀ x c,(x,c)∈dP X.env.cells scope.names []→(x,NameKind.free)∈scope.names∧X.env.cells.lookup x=some c:=fun x c hm=>(jU _ _ hasC hm).resolve_left (by simp)
 have ltC:∀ x c,X.env.cells.lookup x=some c→c<s.heap.objs.size:=fun x c e=>by obtain ⟨v,q⟩:=I.cell x c e;exact q.lt
 have apart:(cellsFrom (s.heap.objs.size+1) scope.names (dP X.env.cells scope.names [])).Pairwise fun x y=>x.2≠y.2:=
  dW _ _ _ (fun p hp=>Nat.lt_succ_of_lt (ltC p.1 p.2 (oldC p.1 p.2 hp).2)) (hX I.ok.inj _ _ nd hasC (by simp) List.Pairwise.nil)
 have fromC:∀ x c,(cellsFrom (s.heap.objs.size+1) scope.names (dP X.env.cells scope.names [])).lookup x=some c→(s.heap.objs.size+1≤c∧(x,NameKind.cell)∈scope.names)∨((x,NameKind.free)∈scope.names∧X.env.cells.lookup x=some c):=fun x c e=>
  (eL _ _ _ (PySem.mem_of_lookup e)).imp id fun z=>oldC x c z
 have sz1:(s.heap.push { cls := .type "dict",data := .dict #[] }).objs.size=s.heap.objs.size+1:=Heap.size_push ..
 simp only [newFunctionEnv,Option.isSome_some,if_true]
 refine wpAny_bind (wpAny_alloc ?_)
 refine wpAny_bind (wpAny_layCells _ (fun name kind cells=>by cases hkc:kind == NameKind.cell <;> simp [hkc]) _ _ _ _ ?_)
 rw [show ({ s with heap:=s.heap.push { cls := .type "dict",data := .dict #[] } }:Shared).heap.objs.size=s.heap.objs.size+1 from sz1]
 refine wpAny_bind ?_
 rw [List.forIn_nil]
 refine wpAny_pure (wpAny_pure ?_)
 have keep:∀ b o,s.heap.get? b=some o→(pushCells (s.heap.push { cls := .type "dict",data := .dict #[] }) scope.names).get? b=some o:=fun b o e=>pushCells_keeps _ _ b o (Heap.get?_push_of_some _ e)
 refine h _ keep ?_
 have kk:∀ x:Str,(eF X N' scope s H fp).env.kindOf x=(relabel scope X.env).names.lookup x:=fun _=>rfl
 have emptyC:∀ x c,(cellsFrom (s.heap.objs.size+1) scope.names (dP X.env.cells scope.names [])).lookup x=some c→∃ v,(pushCells (s.heap.push { cls := .type "dict",data := .dict #[] }) scope.names).IsCell c v:=fun x c e=>by
  have:=dR (x:=x) (c:=c) scope.names (s.heap.push { cls := .type "dict",data := .dict #[] }) (dP X.env.cells scope.names []) (by rw [sz1];exact PySem.mem_of_lookup e)
  rcases this with z | z
  ·obtain ⟨v,q⟩:=I.cell x c (oldC x c z).2
   exact ⟨v,q.keeps keep⟩
  ·exact ⟨none,z⟩
 refine ⟨⟨I.ok.mod,hk,I.ok.glob,I.ok.blt,Nat.le_refl _,fun y z c h1 h2=>?_,fun y hy=>?_,fun y c hy e=>?_,I.ok.hd,I.ok.frames, .inl rfl,fun b hb=>⟨?_,fun x c e=>?_⟩,I.bs,Nat.le_trans I.ok.bsz I.sz,fun b o e hb=>?_,fun b hb hs=>?_,I.stack,I.stkFree⟩,
  rfl,I.bare,Un.kept keep,⟨fun _=>none,(Heap.Ns.new s.heap (.type "dict")).keeps (pushCells_keeps _ _),fun i x v e1 e2 e3=>?_⟩,emptyC,I.hok.fresh (Nat.le_refl _),fun y c e=>?_,fun p hp=>absurd (show p∈([]:List (Addr × Obj)) from hp) (by simp),I.hok.kept keep,by rw [List.length_map];exact hlen⟩
 ·exact name_of_addr apart (PySem.mem_of_lookup h1) (PySem.mem_of_lookup h2)
 ·rw [kk] at hy
  have hy':scope.names.lookup y=some .cell∨scope.names.lookup y=some .free:=by
   rcases hy with q | q
   ·exact iV q (.inl rfl)
   ·exact iV q (.inr rfl)
  refine Option.isSome_iff_exists.mp (PySem.W.cellsFrom_some _ _ _ ?_)
  rcases hy' with q | q
  ·exact .inl q
  ·have hm:=PySem.mem_of_lookup q
   obtain ⟨c,hc⟩:=Option.isSome_iff_exists.mp (hasC _ hm rfl)
   exact .inr (by rw [kY hc _ _ hm];rfl)
 ·have hy:scope.names.lookup y=some .cell:=by simpa using (show (scope.names.lookup y == some NameKind.cell)=true from hy)
  rcases fromC y c e with z | z
  ·exact Nat.le_of_succ_le z.1
  ·have:=cR nd z.1
   rw [hy] at this;cases this
 ·obtain ⟨o,ho⟩:=hfo b hb
  exact Nat.ne_of_lt (Heap.lt_size ho)
 ·rcases fromC x c e with z | z
  ·obtain ⟨o,ho⟩:=hfo b hb
   exact Nat.ne_of_gt (Nat.lt_of_lt_of_le (Heap.lt_size ho) (Nat.le_of_succ_le z.1))
  ·exact (hf b hb).2.2.2.2.1 x c z.2
 ·rcases (hf b hb).2.2.2.1 with z | z
  ·exact I.ok.noex b o e z
  ·exact absurd (Nat.lt_of_lt_of_le (Heap.lt_size (I.ok.bs b o e).1) z) (Nat.lt_irrefl _)
 ·rcases List.mem_cons.mp (I.stkSub b hs) with z | z
  ·exact (hf b hb).2.1 z
  ·exact (hf b hb).2.2.1 z
 ·rw [List.getElem?_map] at e2
  cases hj:ix[i]? with
  | none=>rw [hj] at e2;cases e2
  | some oj=>
   rw [hj] at e2
   have e2:aEs σ oj=some v:=by simpa using e2
   cases oj with
   | none=>cases e2
   | some j=>
    have hv:σ[j]?=some (some v):=by
     have e2':(σ[j]?).join=some v:=e2
     cases q:σ[j]? with
     | none=>rw [q] at e2';cases e2'
     | some w=>rw [q] at e2';have:w=some v:=e2';rw [this]
    have hz:(x,some j)∈N'.zip ix:=by
     refine List.mem_of_getElem? (i:=i) ?_
     rw [List.getElem?_zip_eq_some]
     exact ⟨e1,hj⟩
    have:=hix _ hz
    simp only [Bool.and_eq_true,beq_iff_eq] at this
    obtain ⟨n1,n2⟩:=this
    have hm:=PySem.mem_of_lookup n2
    obtain ⟨m,hn,hl⟩:=I.loc
    have kf:=isF (x, .free) hm rfl
    have vis:Vis X.env.scope x:=by
     rcases kf with q | q
     ·exact .inr (.inl q)
     ·exact .inr (.inr q)
    obtain ⟨u,r,l⟩:=hl j x v n1 hv vis
    refine ⟨u,r, .inr ?_⟩
    rcases l with ⟨k1,_⟩ | ⟨_,c,hc,hcell⟩
    ·rcases kf with q | q <;> (rw [show X.env.kindOf x=some NameKind.local from k1] at q;cases q)
    ·refine ⟨?_,c,?_,hcell.keeps keep⟩
     ·rw [kk];exact rD I.ok.kind n2
     ·show (cellsFrom _ _ _).lookup x=some c
      rw [fH,kY hc _ _ hm]
      intro z
      have:=cR nd z
      rw [n2] at this;cases this
 ·rcases fromC y c e with z | z
  ·exact I.hok.fresh (Nat.le_of_succ_le z.1)
  ·exact I.freeC y c z.2
theorem oF {pins:List (Addr × Obj)}{σ:St}{H:Hp}{s:Shared}{it:Addr}{fp:List Addr}{tn:Nat→Heap→Prop}{J:It}{RR:Value→Addr→Result→Shared→Prop}{E:Value→Shared→Prop}{D:Addr→iE}
  (hc:X.calm=true) (hok:jG X.N scope.names X.env.scope.names N' ix=true) (hk:scope.kind = .function) (hn:∀ g',rest[0]?=some g'→g'.is_async=0)
  (hg:∀ s H fp,PG (eF X N' scope s H fp) target g) (hts:∀ s H fp,PTs (eF X N' scope s H fp) ifs ts)
  (hb:∀ s H fp acc,PB (eF X N' scope s H fp) elt (⟨target,iter,ifs,0⟩ :: rest) scope pos 0 acc (tb acc))
  (I:Inv X pins σ H s) (T:aAt X.prog X.w X.K target J fp it tn) (st:tn 0 s.heap) (hf:∀ b∈fp,FpOk X pins H b)
  (h:∀ acc,H acc=none→fK J g (kR ts (tb acc)) (D acc) (ix.map (aEs σ)) (upd H acc (.lst [])))
  (hR:∀ acc C s' H' σ',H acc=none→s.heap.objs.size≤C→Inv X pins σ H' s'→FpOk X pins H' C→(∃ m,s'.heap.Ns C m)→(D acc).nx σ' H'→RR (.ref acc) C (.ok .next) s') :
  wpAny (model X.prog X.w) X.A (newList []) (fun acc s₃=>wpAny (model X.prog X.w) X.A (newFunctionEnv scope X.env.globals (dP X.env.cells scope.names []) [] X.env.qual none .none (some X.env)) (fun cenv s₄=>
   codeAny (model X.prog X.w) X.A (.compStart (.ListComp elt (⟨target,iter,ifs,0⟩ :: rest) scope pos) 0 (.ref it) acc { cenv with scope:=relabel scope X.env }) (fun r s'=>∃ f,r = .ok f∧RR acc cenv.locals (.ok .next) s') s₄) E s₃) E s:=by
 refine wpAny_newObj_type ?_
 have hnone:H s.heap.objs.size=none:=I.hok.fresh (Nat.le_refl _)
 have I3:Inv X pins σ (upd H s.heap.objs.size (.lst [])) { s with heap:=s.heap.push { cls := .type "list",data := .seq ([]:List Value).toArray } }:=
  I.laid (t':=s.toks) (fun b u e=>Heap.get?_push_of_some _ e) (Nat.le_refl _) ⟨Nat.zero_le _,[],0, .nil,Heap.get?_push_size _ rfl⟩
 have hlt:∀ b∈fp,b<s.heap.objs.size:=fun b hb=>by obtain ⟨o,ho,_⟩:=T.obj 0 _ st b hb;exact Heap.lt_size ho
 have hf3:∀ b∈fp,FpOk X pins (upd H s.heap.objs.size (.lst [])) b:=fun b hb=>⟨by rw [aP (Nat.ne_of_lt (hlt b hb))];exact (hf b hb).1,(hf b hb).2⟩
 refine uV (fp:=fp) I3 hok hk hf3 (fun b hb=>?_) fun s4 keep I4=>?_
 ·obtain ⟨o,ho,_⟩:=T.obj 0 _ st b hb
  exact ⟨o,Heap.get?_push_of_some _ ho⟩
 have st4:tn 0 s4.heap:=T.keep 0 _ _ st fun b hb o e=>keep b o (Heap.get?_push_of_some _ e)
 have size3:({ s with heap:=s.heap.push { cls := .type "list",data := .seq ([]:List Value).toArray } }:Shared).heap.objs.size=s.heap.objs.size+1:=Heap.size_push ..
 have hf4:∀ b∈fp,FpOk (eF X N' scope { s with heap:=s.heap.push { cls := .type "list",data := .seq ([]:List Value).toArray } } (upd H s.heap.objs.size (.lst [])) fp) [] (upd H s.heap.objs.size (.lst [])) b:=fun b hb=>
  ⟨(hf3 b hb).1,(I4.ok.exf b hb).1,I4.ok.exfs b hb, .inl hb,(I4.ok.exf b hb).2,fun p hp=>absurd (show p∈([]:List (Addr × Obj)) from hp) (by simp)⟩
 refine codeAny_mono (wW (X:=eF X N' scope { s with heap:=s.heap.push { cls := .type "list",data := .seq ([]:List Value).toArray } } (upd H s.heap.objs.size (.lst [])) fp) rfl hc (d:=0) (gens:=⟨target,iter,ifs,0⟩ :: rest) rfl hn (hg _ _ _) (hts _ _ _) (hb _ _ _ _) T I4 st4 hf4 (h _ hnone)) fun r s5 ⟨f,hr,σ5,H5,I5,q5⟩=>⟨f,hr,?_⟩
 have I6:Inv X pins σ H5 s5:=I3.call' (ch:=fp) (I5.os.trans rfl) I5.base I5.hok I5.bare fun b hb=>⟨(hf3 b hb).2.2.2.1,(hf3 b hb).2.1,(hf3 b hb).2.2.2.2.1,(hf3 b hb).2.2.2.2.2⟩
 have hC:s.heap.objs.size≤(eF X N' scope { s with heap:=s.heap.push { cls := .type "list",data := .seq ([]:List Value).toArray } } (upd H s.heap.objs.size (.lst [])) fp).env.locals:=by
  show s.heap.objs.size≤_
  exact Nat.le_trans (Nat.le_succ _) (Nat.le_of_eq size3.symm)
 refine hR _ _ s5 H5 σ5 hnone hC I6 (I3.fpOk (Nat.le_refl _) I5.free) ?_ q5
 obtain ⟨m,hm,_⟩:=I5.loc
 exact ⟨m,hm⟩
theorem kN (hok:jG X.N scope.names X.env.scope.names N' ix=true):∀ x∈scope.names,x.2 = .local→scope.names.lookup x.1=some .local:=by
 simp only [jG,Bool.and_eq_true,decide_eq_true_eq,List.all_eq_true] at hok
 intro x hx e
 obtain ⟨n,k⟩:=x
 have e:k = .local:=e
 subst e
 exact cR hok.1.1.1 hx
theorem lK {pins:List (Addr × Obj)}{σ:St}{H:Hp}{s:Shared}(I:Inv X pins σ H s)(hok:jG X.N scope.names X.env.scope.names N' ix=true):closureFor scope X.env=pure (dP X.env.cells scope.names []):=by
 refine nE fun y hy e=>?_
 simp only [jG,Bool.and_eq_true,decide_eq_true_eq,List.all_eq_true] at hok
 have:=hok.1.1.2 y hy
 have:X.env.scope.names.lookup y.1=some .cell∨X.env.scope.names.lookup y.1=some .free:=by simpa [e] using this
 obtain ⟨c,hc⟩:=I.ok.has y.1 this
 rw [hc];rfl
theorem eK (hok:jG X.N scope.names X.env.scope.names N' ix=true)(hk:scope.kind = .function)(hc:X.calm=true)(hi:PI X target iter wi)
  (hg:∀ s H fp,PG (eF X N' scope s H fp) target g) (hts:∀ s H fp,PTs (eF X N' scope s H fp) ifs ts)
  (hb:∀ s H fp acc,PB (eF X N' scope s H fp) elt (⟨target,iter,ifs,0⟩ :: rest) scope pos 0 acc (tb acc))
  (hn:∀ g',rest[0]?=some g'→g'.is_async=0:=by intro _ h;first | cases h;rfl | cases h) (hs:∀ x,foldedSetIterable iter X.env x=pure x:=by intro _;rfl) :
  PE X (.ListComp elt (⟨target,iter,ifs,0⟩ :: rest) scope pos) (eV ix wi g ts tb):=by
 intro pins s σ H Q I h
 rw [eval_ListComp]
 refine wpAny_comprehension_free (use:=none) rfl hs (lK I hok) hk (kN hok) (thn (hi pins s σ H _ I h) fun xv s₁ h₁=>thn h₁ fun itv s₂ h₂=>?_)
 obtain ⟨it,fp,tn,J,H2,e,I2,T,st2,f2,q2⟩:=h₂
 subst e
 refine thn (oF (RR:=fun acc C r s'=>compPost (model X.prog X.w) X.A X.xe none (EP X pins σ Q) acc C r s') hc hok hk hn hg hts hb I2 T st2 f2 q2 fun acc C s' H' σ' ha hC I' fC hns q=>?_) fun acc s3 h3=>thn h3 fun cenv s4 h4=>codeAny_mono h4 fun r s5 ⟨f,hr,h5⟩=>?_
 ·obtain ⟨m,hm⟩:=hns
  refine ⟨m,hm,fun h' hs'=>⟨.ref acc,H',I'.turned (t':=s'.toks) (fun b o hb e=>(hs'.2 b hb).trans e) fC.1 fC.2.1 fC.2.2.2.1 fC.2.2.2.2.1 fC.2.2.2.2.2,rfl,q⟩⟩
 ·subst hr
  exact h5
theorem kB {i:Nat}{x:Str}{pos' spos:Pos}(hN:X.N.Nodup)(hix:X.N[i]?=some x)(hx:Loc X.env.scope x)(hok:jG X.N scope.names X.env.scope.names N' ix=true)(hk:scope.kind = .function)(hc:X.calm=true)(hi:PI X target iter wi)
  (hg:∀ s H fp,PG (eF X N' scope s H fp) target g) (hts:∀ s H fp,PTs (eF X N' scope s H fp) ifs ts)
  (hb:∀ s H fp acc,PB (eF X N' scope s H fp) elt (⟨target,iter,ifs,0⟩ :: rest) scope pos 0 acc (tb acc))
  (hsw:swapsWith (.ListComp elt (⟨target,iter,ifs,0⟩ :: rest) scope pos) (some (.Name x pos')) spos.line X.env=pure true:=by rfl)
  (hf:X.fn x=true∨X.env.scope.names.lookup x=some .local:=by first | exact .inl rfl | exact .inr rfl | assumption)
  (hn:∀ g',rest[0]?=some g'→g'.is_async=0:=by intro _ h;first | cases h;rfl | cases h) (hs:∀ x,foldedSetIterable iter X.env x=pure x:=by intro _;rfl) :
  PS X (.Assign [.Name x pos'] (.ListComp elt (⟨target,iter,ifs,0⟩ :: rest) scope pos) spos) (dB (eV ix wi g ts tb) (aN i)):=by
 intro pins s σ H D I h
 rw [exec_Assign_Name_used _ _ _ _ hsw]
 refine wpAny_bind (wpAny_standAt (wpAny_bind ?_))
 show wpAny _ X.A (do let _ ← comprehension (.ListComp elt (⟨target,iter,ifs,0⟩ :: rest) scope pos) scope X.env _ (newList []) false (eval iter X.env) (some (assign (.Name x pos') X.env))) _ _ s
 refine wpAny_bind (wpAny_mono (wpAny_comprehension_free (use:=some (assign (.Name x pos') X.env)) (Q:=fun _ s'=>SP X pins D .next s') rfl hs (lK I hok) hk (kN hok) (thn (hi pins s σ H _ I h) fun xv s₁ h₁=>thn h₁ fun itv s₂ h₂=>?_)) (fun _ s' hq=>wpAny_pure (wpAny_pure hq)) fun _ _ e=>e)
 obtain ⟨it,fp,tn,J,H2,e,I2,T,st2,f2,q2⟩:=h₂
 subst e
 refine thn (oF (RR:=fun acc C r s'=>compPost (model X.prog X.w) X.A X.xe (some (assign (.Name x pos') X.env)) (fun _ s'=>SP X pins D .next s') acc C r s') hc hok hk hn hg hts hb I2 T st2 f2 q2 fun acc C s' H' σ' ha hC I' fC hns q=>?_) fun acc s3 h3=>thn h3 fun cenv s4 h4=>codeAny_mono h4 fun r s5 ⟨f,hr,h5⟩=>?_
 ·obtain ⟨m,hm⟩:=hns
  show wpAny _ X.A (assign (.Name x pos') X.env (.ref acc)) _ _ _
  refine wpAny_assign_Name (qS I' hN hix hx (v := .ref acc) rfl (fun s6 I6 ⟨a,hsb,ha6⟩=>?_) hf)
  have hCa:C≠a:=by
   rcases ha6 with z | z
   ·rw [z];exact fC.2.1
   ·exact (fC.2.2.2.2.1 x a z).symm
  refine ⟨m,hm.sameBut hsb hCa,fun h' hs'=>⟨_,H',I6.turned (t':=s6.toks) (fun b o hb e=>(hs'.2 b hb).trans e) fC.1 fC.2.1 fC.2.2.2.1 fC.2.2.2.2.1 fC.2.2.2.2.2,q⟩⟩
 ·subst hr
  exact h5
end
end L2
namespace L2
open PySem PySem.Spec PyProof.Rows
theorem Same.tup {K:PySem.W.Frag}{H H':Hp}{a:Addr}{xs:List V}(e:Same H H')(h:SqT K H a xs):SqT K H' a xs:=by
 rcases h with (h | ⟨o,h⟩) | h
 ·exact .inl (.inl (e _ _ h))
 ·exact .inl (.inr ⟨o,e _ _ h⟩)
 ·exact .inr h
inductive Dt where
 | non | bl (b:Bool) | int (i:Int) | str (x:Str) | tup (ds:List Dt) | lst (ds:List Dt)
mutual
noncomputable def Sh (K:PySem.W.Frag) (H:Hp):Dt→V→Prop
 | .non,v=>v = .non
 | .bl b,v=>v = .bl b
 | .int i,v=>v = .int i
 | .str x,v=>v = .str x
 | .tup ds,v=>∃ a xs,v = .ref a∧SqT K H a xs∧ShL K H ds xs
 | .lst ds,v=>∃ a xs,v = .ref a∧SqL K H a xs∧ShL K H ds xs
noncomputable def ShL (K:PySem.W.Frag) (H:Hp):List Dt→List V→Prop
 | [],xs=>xs=[]
 | d :: ds,xs=>∃ x r,xs=x :: r∧Sh K H d x∧ShL K H ds r
end
mutual
noncomputable def eqD:Dt→Dt→Bool
 | .non, .non=>true
 | .bl a, .bl b=>a == b
 | .int a, .int b=>a == b
 | .str a, .str b=>a == b
 | .bl a, .int b=>(if a then 1 else 0) == b
 | .int a, .bl b=>a == (if b then 1 else 0)
 | .tup ds, .tup es=>eqL ds es
 | .lst ds, .lst es=>eqL ds es
 | _,_=>false
noncomputable def eqL:List Dt→List Dt→Bool
 | [],[]=>true
 | d :: ds,e :: es=>eqD d e && eqL ds es
 | _,_=>false
end
mutual
noncomputable def dep:Dt→Nat
 | .tup ds=>jZ ds+1
 | .lst ds=>jZ ds+1
 | _=>0
noncomputable def jZ:List Dt→Nat
 | []=>0
 | d :: ds=>max (dep d) (jZ ds)
end
section
variable {K:PySem.W.Frag}{H H':Hp}
mutual
theorem Sh.same (e:Same H H'):∀ {d:Dt} {v:V},Sh K H d v→Sh K H' d v
 | .non,_,h=>h
 | .bl _,_,h=>h
 | .int _,_,h=>h
 | .str _,_,h=>h
 | .tup ds,_,⟨a,xs,h1,h2,h3⟩=>⟨a,xs,h1,e.tup h2,ShL.same e h3⟩
 | .lst ds,_,⟨a,xs,h1,h2,h3⟩=>⟨a,xs,h1,e.seq h2,ShL.same e h3⟩
theorem ShL.same (e:Same H H'):∀ {ds:List Dt} {xs:List V},ShL K H ds xs→ShL K H' ds xs
 | [],_,h=>h
 | d :: ds,_,⟨x,r,h1,h2,h3⟩=>⟨x,r,h1,Sh.same e h2,ShL.same e h3⟩
end
theorem ShL.length:∀ {ds:List Dt} {xs:List V},ShL K H ds xs→ds.length=xs.length
 | [],_,h=>by rw [show _=[] from h];rfl
 | d :: ds,_,⟨x,r,h1,h2,h3⟩=>by rw [h1,List.length_cons,List.length_cons,ShL.length h3]
theorem ShL.get:∀ {ds:List Dt} {xs:List V} {j:Nat} {d:Dt},ShL K H ds xs→ds[j]?=some d→∃ x,xs[j]?=some x∧Sh K H d x
 | [],_,_,_,_,h=>by simp at h
 | d :: ds,_,0,e,⟨x,r,h1,h2,h3⟩,h=>by
  have:d=e:=by simpa using h
  subst this
  exact ⟨x,by rw [h1];rfl,h2⟩
 | d :: ds,_,j+1,e,⟨x,r,h1,h2,h3⟩,h=>by
  obtain ⟨y,h4,h5⟩:=ShL.get (j:=j) h3 (by simpa using h)
  exact ⟨y,by rw [h1];simpa using h4,h5⟩
theorem ShL.ints:∀ (ns:List Int),ShL K H (ns.map Dt.int) (ns.map V.int)
 | []=>rfl
 | n :: ns=>⟨.int n,ns.map V.int,rfl,rfl,ShL.ints ns⟩
theorem ShL.of_ints:∀ {ns:List Int} {xs:List V},ShL K H (ns.map Dt.int) xs→xs=ns.map V.int
 | [],_,h=>h
 | n :: ns,_,⟨x,r,h1,h2,h3⟩=>by rw [h1,ShL.of_ints h3,show x=V.int n from h2];rfl
end
mutual
theorem jA:∀ d:Dt,eqD d d=true
 | .non=>by unfold eqD;rfl
 | .bl b=>by unfold eqD;simp
 | .int b=>by unfold eqD;simp
 | .str b=>by unfold eqD;simp
 | .tup ds=>by unfold eqD;exact jD ds
 | .lst ds=>by unfold eqD;exact jD ds
theorem jD:∀ ds:List Dt,eqL ds ds=true
 | []=>by unfold eqL;rfl
 | d :: ds=>by unfold eqL;rw [jA d,jD ds];rfl
end
theorem jX:∀ {ds es:List Dt},eqL ds es=true→ds.length=es.length
 | [],[],_=>rfl
 | [],_ :: _,h=>by unfold eqL at h;cases h
 | _ :: _,[],h=>by unfold eqL at h;cases h
 | d :: ds,e :: es,h=>by
  unfold eqL at h
  rw [List.length_cons,List.length_cons,jX (Bool.and_eq_true_iff.mp h).2]
theorem gY (n:Nat)(f:Nat→Bool):(List.range (n+1)).all f=(f 0 && (List.range n).all fun j=>f (j+1)):=by
 rw [List.range_succ_eq_map,List.all_cons,List.all_map]
 rfl
theorem lC:∀ (ds es:List Dt),((List.range (min ds.length es.length)).all (fun j=>eqD (ds.getD j .non) (es.getD j .non)) && ds.length == es.length)=eqL ds es
 | [],[]=>by unfold eqL;rfl
 | [],e :: es=>by unfold eqL;simp
 | d :: ds,[]=>by unfold eqL;simp
 | d :: ds,e :: es=>by
  have ih:=lC ds es
  unfold eqL
  rw [← ih,List.length_cons,List.length_cons,Nat.succ_min_succ,gY,Bool.and_assoc]
  congr 1
  congr 1
  simp
theorem pM {ds:List Dt}{j:Nat}{d:Dt}(h:ds[j]?=some d):dep d≤jZ ds:=by
 induction ds generalizing j with
 | nil=>simp at h
 | cons e es ih=>
  unfold jZ
  cases j with
  | zero=>
   have:e=d:=by simpa using h
   subst this
   exact Nat.le_max_left _ _
  | succ j=>exact Nat.le_trans (ih (by simpa using h)) (Nat.le_max_right _ _)
section
variable {X:Cx}{pins:List (Addr × Obj)}{σ:St}{H:Hp}{s:Shared}
theorem Inv.tl_ne (I:Inv X pins σ H s){a:Addr}{xs ys:List V}(h:SqT X.K H a xs)(h':SqL X.K H a ys):False:=by
 obtain ⟨its,r,⟨o,e,c,n,d⟩,_⟩:=I.tuple h
 obtain ⟨its',r',⟨o',n',e',c',_,d'⟩,_⟩:=I.list h'
 rw [e] at e';cases e'
 rw [c] at c';simp at c'
mutual
theorem Inv.sh_inj (I:Inv X pins σ H s):∀ {d e:Dt} {v:V},Sh X.K H d v→Sh X.K H e v→d=e
 | .non,e,v,h,h'=>by
  have h:v = .non:=h
  subst h
  cases e <;> first | rfl | (exact absurd (show V.non=_ from h') (fun z=>nomatch z)) | (obtain ⟨_,_,z,_⟩:=h';cases z)
 | .bl b,e,v,h,h'=>by
  have h:v = .bl b:=h
  subst h
  cases e <;> first | (cases (show V.bl b=V.bl _ from h');rfl) | (exact absurd (show V.bl b=_ from h') (fun z=>nomatch z)) | (obtain ⟨_,_,z,_⟩:=h';cases z)
 | .int b,e,v,h,h'=>by
  have h:v = .int b:=h
  subst h
  cases e <;> first | (cases (show V.int b=V.int _ from h');rfl) | (exact absurd (show V.int b=_ from h') (fun z=>nomatch z)) | (obtain ⟨_,_,z,_⟩:=h';cases z)
 | .str b,e,v,h,h'=>by
  have h:v = .str b:=h
  subst h
  cases e <;> first | (cases (show V.str b=V.str _ from h');rfl) | (exact absurd (show V.str b=_ from h') (fun z=>nomatch z)) | (obtain ⟨_,_,z,_⟩:=h';cases z)
 | .tup ds,e,v,⟨a,xs,h1,h2,h3⟩,h'=>by
  subst h1
  cases e with
  | tup es=>
   obtain ⟨a',xs',z,h2',h3'⟩:=h'
   cases z
   rw [I.tuple_inj h2' h2] at h3'
   rw [Inv.shL_inj I h3 h3']
  | lst es=>
   obtain ⟨a',xs',z,h2',h3'⟩:=h'
   cases z
   exact (I.tl_ne h2 h2').elim
  | _=>exact absurd (show V.ref a=_ from h') (fun z=>nomatch z)
 | .lst ds,e,v,⟨a,xs,h1,h2,h3⟩,h'=>by
  subst h1
  cases e with
  | lst es=>
   obtain ⟨a',xs',z,h2',h3'⟩:=h'
   cases z
   rw [I.list_inj h2' h2] at h3'
   rw [Inv.shL_inj I h3 h3']
  | tup es=>
   obtain ⟨a',xs',z,h2',h3'⟩:=h'
   cases z
   exact (I.tl_ne h2' h2).elim
  | _=>exact absurd (show V.ref a=_ from h') (fun z=>nomatch z)
theorem Inv.shL_inj (I:Inv X pins σ H s):∀ {ds es:List Dt} {xs:List V},ShL X.K H ds xs→ShL X.K H es xs→ds=es
 | [],[],_,_,_=>rfl
 | [],e :: es,_,h,⟨x,r,h1,_⟩=>by rw [show _=[] from h] at h1;cases h1
 | d :: ds,[],_,⟨x,r,h1,_⟩,h=>by rw [show _=[] from h] at h1;cases h1
 | d :: ds,e :: es,_,⟨x,r,h1,h2,h3⟩,⟨x',r',h1',h2',h3'⟩=>by
  rw [h1] at h1'
  cases h1'
  rw [Inv.sh_inj I h2 h2',Inv.shL_inj I h3 h3']
end
end
end L2
namespace L2
open PySem PySem.Spec PyProof.Rows
section
variable {X:Cx}{pins:List (Addr × Obj)}{σ:St}{H:Hp}{s:Shared}
open PySem.SeqAt
theorem kZ {ds es:List Dt}{xs ys:List V}{us vs:List Value}(hs:ShL X.K H ds xs)(hr:Vals xs us)(hs':ShL X.K H es ys)(hr':Vals ys vs){A:Around}
  (h:∀ (d e:Dt) (x y:V) (u v:Value),(∃ j:Nat,ds[j]?=some d)→RelV x u→RelV y v→Sh X.K H d x→Sh X.K H e y→EqAt A s u v (eqD d e)) :
  ∀ j (h1:j<us.toArray.size) (h2:j<vs.toArray.size),EqAt A s us.toArray[j] vs.toArray[j] (eqD (ds.getD j .non) (es.getD j .non)):=by
 intro j h1 h2
 have l1:=hs.length
 have l2:=hr.length
 have l3:=hs'.length
 have l4:=hr'.length
 have g1:j<us.length:=by simpa using h1
 have g2:j<vs.length:=by simpa using h2
 have e1:ds[j]?=some (ds.getD j .non):=by rw [List.getD_eq_getElem?_getD,List.getElem?_eq_getElem (by omega)];rfl
 have e2:es[j]?=some (es.getD j .non):=by rw [List.getD_eq_getElem?_getD,List.getElem?_eq_getElem (by omega)];rfl
 obtain ⟨x,hx,sx⟩:=hs.get e1
 obtain ⟨y,hy,sy⟩:=hs'.get e2
 obtain ⟨u,hu,ru⟩:=hr.get hx
 obtain ⟨v,hv,rv⟩:=hr'.get hy
 have q1:us.toArray[j]=u:=by
  rw [List.getElem?_eq_getElem g1] at hu
  simpa using hu
 have q2:vs.toArray[j]=v:=by
  rw [List.getElem?_eq_getElem g2] at hv
  simpa using hv
 rw [q1,q2]
 exact h _ _ x y u v ⟨j,e1⟩ ru rv sx sy
theorem Inv.eq_sh (I:Inv X pins σ H s):∀ (n:Nat) (A:Around) (d e:Dt) (x y:V) (u v:Value),dep d≤n→A.units+n<cLine→RelV x u→RelV y v→Sh X.K H d x→Sh X.K H e y→RcAt A s u v (eqD d e)∧EqAt A s u v (eqD d e):=by
 intro n
 induction n with
 | zero=>
  intro A d e x y u v hd hu rx ry hx hy
  have hu0:A.units<cLine:=by omega
  cases d with
  | tup ds=>unfold dep at hd;omega
  | lst ds=>unfold dep at hd;omega
  | non=>
   obtain rfl:x = .non:=hx
   obtain rfl:u=Value.none:=rx
   cases e with
   | non=>obtain rfl:y = .non:=hy;obtain rfl:v=Value.none:=ry;unfold eqD;exact ⟨RcAt.none_none,EqAt.same _⟩
   | bl b=>obtain rfl:y = .bl b:=hy;obtain rfl:v=Value.bool b:=ry;unfold eqD;exact ⟨RcAt.none_bool b,EqAt.none_bool b⟩
   | int b=>obtain rfl:y = .int b:=hy;obtain ⟨t,rfl⟩:=ry;unfold eqD;exact ⟨RcAt.none_int b t,EqAt.none_int b t⟩
   | str b=>obtain rfl:y = .str b:=hy;obtain ⟨t,rfl⟩:=ry;unfold eqD;exact ⟨RcAt.none_str b t,EqAt.none_str b t⟩
   | tup es=>obtain ⟨b,ys,rfl,hq,_⟩:=hy;obtain rfl:v=Value.ref b:=ry;obtain ⟨its,_,p,_⟩:=I.tuple hq;unfold eqD;exact ⟨RcAt.none_tuple (show s.heap.IsTuple b its.toArray from p) hu0,EqAt.none_tuple (show s.heap.IsTuple b its.toArray from p) hu0⟩
   | lst es=>obtain ⟨b,ys,rfl,hq,_⟩:=hy;obtain rfl:v=Value.ref b:=ry;obtain ⟨its,_,p,_⟩:=I.list hq;unfold eqD;exact ⟨RcAt.none_list p.isList hu0,EqAt.none_list p.isList hu0⟩
  | bl a=>
   obtain rfl:x = .bl a:=hx
   obtain rfl:u=Value.bool a:=rx
   cases e with
   | non=>obtain rfl:y = .non:=hy;obtain rfl:v=Value.none:=ry;unfold eqD;exact ⟨RcAt.bool_none a,EqAt.bool_none a⟩
   | bl b=>obtain rfl:y = .bl b:=hy;obtain rfl:v=Value.bool b:=ry;unfold eqD;exact ⟨RcAt.bool_bool a b,EqAt.bool_bool a b⟩
   | int b=>obtain rfl:y = .int b:=hy;obtain ⟨t,rfl⟩:=ry;unfold eqD;exact ⟨RcAt.bool_int a b t,EqAt.bool_int a b t⟩
   | str b=>obtain rfl:y = .str b:=hy;obtain ⟨t,rfl⟩:=ry;unfold eqD;exact ⟨RcAt.bool_str a b t,EqAt.bool_str a b t⟩
   | tup es=>obtain ⟨b,ys,rfl,hq,_⟩:=hy;obtain rfl:v=Value.ref b:=ry;obtain ⟨its,_,p,_⟩:=I.tuple hq;unfold eqD;exact ⟨RcAt.bool_tuple a (show s.heap.IsTuple b its.toArray from p) hu0,EqAt.bool_tuple a (show s.heap.IsTuple b its.toArray from p) hu0⟩
   | lst es=>obtain ⟨b,ys,rfl,hq,_⟩:=hy;obtain rfl:v=Value.ref b:=ry;obtain ⟨its,_,p,_⟩:=I.list hq;unfold eqD;exact ⟨RcAt.bool_list a p.isList hu0,EqAt.bool_list a p.isList hu0⟩
  | int a=>
   obtain rfl:x = .int a:=hx
   obtain ⟨t0,rfl⟩:=rx
   cases e with
   | non=>obtain rfl:y = .non:=hy;obtain rfl:v=Value.none:=ry;unfold eqD;exact ⟨RcAt.int_none a t0,EqAt.int_none a t0⟩
   | bl b=>obtain rfl:y = .bl b:=hy;obtain rfl:v=Value.bool b:=ry;unfold eqD;exact ⟨RcAt.int_bool a t0 b,EqAt.int_bool a t0 b⟩
   | int b=>obtain rfl:y = .int b:=hy;obtain ⟨t,rfl⟩:=ry;unfold eqD;exact ⟨RcAt.int_int a t0 b t,EqAt.int_int a t0 b t⟩
   | str b=>obtain rfl:y = .str b:=hy;obtain ⟨t,rfl⟩:=ry;unfold eqD;exact ⟨RcAt.int_str a t0 b t,EqAt.int_str a t0 b t⟩
   | tup es=>obtain ⟨b,ys,rfl,hq,_⟩:=hy;obtain rfl:v=Value.ref b:=ry;obtain ⟨its,_,p,_⟩:=I.tuple hq;unfold eqD;exact ⟨RcAt.int_tuple a t0 (show s.heap.IsTuple b its.toArray from p) hu0,EqAt.int_tuple a t0 (show s.heap.IsTuple b its.toArray from p) hu0⟩
   | lst es=>obtain ⟨b,ys,rfl,hq,_⟩:=hy;obtain rfl:v=Value.ref b:=ry;obtain ⟨its,_,p,_⟩:=I.list hq;unfold eqD;exact ⟨RcAt.int_list a t0 p.isList hu0,EqAt.int_list a t0 p.isList hu0⟩
  | str a=>
   obtain rfl:x = .str a:=hx
   obtain ⟨t0,rfl⟩:=rx
   cases e with
   | non=>obtain rfl:y = .non:=hy;obtain rfl:v=Value.none:=ry;unfold eqD;exact ⟨RcAt.str_none a t0,EqAt.str_none a t0⟩
   | bl b=>obtain rfl:y = .bl b:=hy;obtain rfl:v=Value.bool b:=ry;unfold eqD;exact ⟨RcAt.str_bool a t0 b,EqAt.str_bool a t0 b⟩
   | int b=>obtain rfl:y = .int b:=hy;obtain ⟨t,rfl⟩:=ry;unfold eqD;exact ⟨RcAt.str_int a t0 b t,EqAt.str_int a t0 b t⟩
   | str b=>obtain rfl:y = .str b:=hy;obtain ⟨t,rfl⟩:=ry;unfold eqD;exact ⟨RcAt.str_str a t0 b t,EqAt.str_str a t0 b t⟩
   | tup es=>obtain ⟨b,ys,rfl,hq,_⟩:=hy;obtain rfl:v=Value.ref b:=ry;obtain ⟨its,_,p,_⟩:=I.tuple hq;unfold eqD;exact ⟨RcAt.str_tuple a t0 (show s.heap.IsTuple b its.toArray from p) hu0,EqAt.str_tuple a t0 (show s.heap.IsTuple b its.toArray from p) hu0⟩
   | lst es=>obtain ⟨b,ys,rfl,hq,_⟩:=hy;obtain rfl:v=Value.ref b:=ry;obtain ⟨its,_,p,_⟩:=I.list hq;unfold eqD;exact ⟨RcAt.str_list a t0 p.isList hu0,EqAt.str_list a t0 p.isList hu0⟩
 | succ n ih=>
  intro A d e x y u v hd hu rx ry hx hy
  have hu0:A.units<cLine:=by omega
  by_cases hd0:dep d≤n
  ·exact ih A d e x y u v hd0 (by omega) rx ry hx hy
  cases d with
  | non=>exact absurd (Nat.zero_le _) hd0
  | bl a=>exact absurd (Nat.zero_le _) hd0
  | int a=>exact absurd (Nat.zero_le _) hd0
  | str a=>exact absurd (Nat.zero_le _) hd0
  | tup ds=>
   have hdd:jZ ds≤n:=by unfold dep at hd;omega
   have hx0:=hx
   obtain ⟨a,xs,rfl,hq,hl⟩:=hx
   obtain rfl:u=Value.ref a:=rx
   obtain ⟨its,rv,p,_⟩:=I.tuple hq
   have p:s.heap.IsTuple a its.toArray:=p
   cases e with
   | non=>obtain rfl:y = .non:=hy;obtain rfl:v=Value.none:=ry;unfold eqD;exact ⟨RcAt.tuple_none p hu0,EqAt.tuple_none p hu0⟩
   | bl b=>obtain rfl:y = .bl b:=hy;obtain rfl:v=Value.bool b:=ry;unfold eqD;exact ⟨RcAt.tuple_bool b p hu0,EqAt.tuple_bool b p hu0⟩
   | int b=>obtain rfl:y = .int b:=hy;obtain ⟨t,rfl⟩:=ry;unfold eqD;exact ⟨RcAt.tuple_int b t p hu0,EqAt.tuple_int b t p hu0⟩
   | str b=>obtain rfl:y = .str b:=hy;obtain ⟨t,rfl⟩:=ry;unfold eqD;exact ⟨RcAt.tuple_str b t p hu0,EqAt.tuple_str b t p hu0⟩
   | lst es=>obtain ⟨b,ys,rfl,hq',_⟩:=hy;obtain rfl:v=Value.ref b:=ry;obtain ⟨its',_,p',_⟩:=I.list hq';unfold eqD;exact ⟨RcAt.tuple_list p p'.isList hu0,EqAt.tuple_list p p'.isList hu0⟩
   | tup es=>
    have hy0:=hy
    obtain ⟨b,ys,rfl,hq',hl'⟩:=hy
    obtain rfl:v=Value.ref b:=ry
    obtain ⟨its',rv',p',_⟩:=I.tuple hq'
    have p':s.heap.IsTuple b its'.toArray:=p'
    have he:=kZ (A:=A.in1) (s:=s) hl rv hl' rv' (fun d e x y u v ⟨j,hj⟩ r1 r2 s1 s2=>(ih A.in1 d e x y u v (Nat.le_trans (pM hj) hdd) (by show A.units+1+n<cLine;omega) r1 r2 s1 s2).2)
    have rc:=RcAt.tuples p p' hu0 he
    have l1:=hl.length
    have l2:=rv.length
    have l3:=hl'.length
    have l4:=rv'.length
    rw [List.size_toArray,List.size_toArray,← l2,← l4,← l1,← l3,lC] at rc
    unfold eqD
    refine ⟨rc,?_⟩
    by_cases hab:a=b
    ·subst hab
     have:=I.sh_inj hx0 hy0
     cases this
     rw [jD]
     exact EqAt.same _
    ·exact EqAt.of_refs hab rc
  | lst ds=>
   have hdd:jZ ds≤n:=by unfold dep at hd;omega
   have hx0:=hx
   obtain ⟨a,xs,rfl,hq,hl⟩:=hx
   obtain rfl:u=Value.ref a:=rx
   obtain ⟨its,rv,p,_⟩:=I.list hq
   have p:=p.isList
   cases e with
   | non=>obtain rfl:y = .non:=hy;obtain rfl:v=Value.none:=ry;unfold eqD;exact ⟨RcAt.list_none p hu0,EqAt.list_none p hu0⟩
   | bl b=>obtain rfl:y = .bl b:=hy;obtain rfl:v=Value.bool b:=ry;unfold eqD;exact ⟨RcAt.list_bool b p hu0,EqAt.list_bool b p hu0⟩
   | int b=>obtain rfl:y = .int b:=hy;obtain ⟨t,rfl⟩:=ry;unfold eqD;exact ⟨RcAt.list_int b t p hu0,EqAt.list_int b t p hu0⟩
   | str b=>obtain rfl:y = .str b:=hy;obtain ⟨t,rfl⟩:=ry;unfold eqD;exact ⟨RcAt.list_str b t p hu0,EqAt.list_str b t p hu0⟩
   | tup es=>obtain ⟨b,ys,rfl,hq',_⟩:=hy;obtain rfl:v=Value.ref b:=ry;obtain ⟨its',_,p',_⟩:=I.tuple hq';unfold eqD;exact ⟨RcAt.list_tuple p (show s.heap.IsTuple b its'.toArray from p') hu0,EqAt.list_tuple p (show s.heap.IsTuple b its'.toArray from p') hu0⟩
   | lst es=>
    have hy0:=hy
    obtain ⟨b,ys,rfl,hq',hl'⟩:=hy
    obtain rfl:v=Value.ref b:=ry
    obtain ⟨its',rv',p',_⟩:=I.list hq'
    have p':=p'.isList
    have l1:=hl.length
    have l2:=rv.length
    have l3:=hl'.length
    have l4:=rv'.length
    have rc:RcAt A s (.ref a) (.ref b) (eqL ds es):=by
     by_cases hz:ds.length=es.length
     ·have he:=kZ (A:=A.in1) (s:=s) hl rv hl' rv' (fun d e x y u v ⟨j,hj⟩ r1 r2 s1 s2=>(ih A.in1 d e x y u v (Nat.le_trans (pM hj) hdd) (by show A.units+1+n<cLine;omega) r1 r2 s1 s2).2)
      have rc:=RcAt.lists p p' (by rw [List.size_toArray,List.size_toArray];omega) hu0 he
      rw [List.size_toArray,← l2,← l1] at rc
      have q:=lC ds es
      rw [← hz,Nat.min_self,beq_self_eq_true,Bool.and_true] at q
      rw [← q]
      exact rc
     ·have q:eqL ds es=false:=by
       cases q:eqL ds es with
       | false=>rfl
       | true=>exact absurd (jX q) hz
      rw [q]
      exact RcAt.lists_lengths p p' (by rw [List.size_toArray,List.size_toArray];simp;omega) hu0
    unfold eqD
    refine ⟨rc,?_⟩
    by_cases hab:a=b
    ·subst hab
     have:=I.sh_inj hx0 hy0
     cases this
     rw [jD]
     exact EqAt.same _
    ·exact EqAt.of_refs hab rc
noncomputable def sP (K:PySem.W.Frag):R2:=fun x y H Q=>∃ d e,dep d≤100∧Sh K H d x∧Sh K H e y∧Q (.bl (eqD d e)) H
theorem aDV (hu:X.A.units+100<cLine):OpR X (compareOp .Eq) (sP X.K):=by
 intro pins s σ H x y v u Q I rx ry ⟨d,e,hd,hx,hy,q⟩
 exact (I.eq_sh 100 X.A d e x y v u hd hu rx ry hx hy).1 X.prog X.w X.xe _ ⟨.bl _,H,I,rfl,q⟩
end
end L2
namespace L2
open PySem PySem.Spec PyProof.Rows
section
variable {X:Cx}{pins:List (Addr × Obj)}{σ:St}{H:Hp}{s:Shared}
open PySem.SeqAt
theorem Inv.ne_sh (I:Inv X pins σ H s){A:Around}(d e:Dt)(x y:V)(u v:Value)(hd:dep d≤100)(hu:A.units+101<cLine)(rx:RelV x u)(ry:RelV y v)(hx:Sh X.K H d x)(hy:Sh X.K H e y):RcNeAt A s u v (!eqD d e):=by
 have hu0:A.units<cLine:=by omega
 cases d with
 | non=>
  obtain rfl:x = .non:=hx
  obtain rfl:u=Value.none:=rx
  cases e with
  | non=>obtain rfl:y = .non:=hy;obtain rfl:v=Value.none:=ry;unfold eqD;exact RcNeAt.none_none
  | bl b=>obtain rfl:y = .bl b:=hy;obtain rfl:v=Value.bool b:=ry;unfold eqD;exact RcNeAt.none_bool b
  | int b=>obtain rfl:y = .int b:=hy;obtain ⟨t,rfl⟩:=ry;unfold eqD;exact RcNeAt.none_int b t
  | str b=>obtain rfl:y = .str b:=hy;obtain ⟨t,rfl⟩:=ry;unfold eqD;exact RcNeAt.none_str b t
  | tup es=>obtain ⟨b,ys,rfl,hq,_⟩:=hy;obtain rfl:v=Value.ref b:=ry;obtain ⟨its,_,p,_⟩:=I.tuple hq;unfold eqD;exact RcNeAt.none_tuple (show s.heap.IsTuple b its.toArray from p) hu0
  | lst es=>obtain ⟨b,ys,rfl,hq,_⟩:=hy;obtain rfl:v=Value.ref b:=ry;obtain ⟨its,_,p,_⟩:=I.list hq;unfold eqD;exact RcNeAt.none_list p.isList hu0
 | bl a=>
  obtain rfl:x = .bl a:=hx
  obtain rfl:u=Value.bool a:=rx
  cases e with
  | non=>obtain rfl:y = .non:=hy;obtain rfl:v=Value.none:=ry;unfold eqD;exact RcNeAt.bool_none a
  | bl b=>obtain rfl:y = .bl b:=hy;obtain rfl:v=Value.bool b:=ry;unfold eqD;exact RcNeAt.bool_bool a b
  | int b=>obtain rfl:y = .int b:=hy;obtain ⟨t,rfl⟩:=ry;unfold eqD;exact RcNeAt.bool_int a b t
  | str b=>obtain rfl:y = .str b:=hy;obtain ⟨t,rfl⟩:=ry;unfold eqD;exact RcNeAt.bool_str a b t
  | tup es=>obtain ⟨b,ys,rfl,hq,_⟩:=hy;obtain rfl:v=Value.ref b:=ry;obtain ⟨its,_,p,_⟩:=I.tuple hq;unfold eqD;exact RcNeAt.bool_tuple a (show s.heap.IsTuple b its.toArray from p) hu0
  | lst es=>obtain ⟨b,ys,rfl,hq,_⟩:=hy;obtain rfl:v=Value.ref b:=ry;obtain ⟨its,_,p,_⟩:=I.list hq;unfold eqD;exact RcNeAt.bool_list a p.isList hu0
 | int a=>
  obtain rfl:x = .int a:=hx
  obtain ⟨t0,rfl⟩:=rx
  cases e with
  | non=>obtain rfl:y = .non:=hy;obtain rfl:v=Value.none:=ry;unfold eqD;exact RcNeAt.int_none a t0
  | bl b=>obtain rfl:y = .bl b:=hy;obtain rfl:v=Value.bool b:=ry;unfold eqD;exact RcNeAt.int_bool a t0 b
  | int b=>obtain rfl:y = .int b:=hy;obtain ⟨t,rfl⟩:=ry;unfold eqD;exact RcNeAt.int_int a t0 b t
  | str b=>obtain rfl:y = .str b:=hy;obtain ⟨t,rfl⟩:=ry;unfold eqD;exact RcNeAt.int_str a t0 b t
  | tup es=>obtain ⟨b,ys,rfl,hq,_⟩:=hy;obtain rfl:v=Value.ref b:=ry;obtain ⟨its,_,p,_⟩:=I.tuple hq;unfold eqD;exact RcNeAt.int_tuple a t0 (show s.heap.IsTuple b its.toArray from p) hu0
  | lst es=>obtain ⟨b,ys,rfl,hq,_⟩:=hy;obtain rfl:v=Value.ref b:=ry;obtain ⟨its,_,p,_⟩:=I.list hq;unfold eqD;exact RcNeAt.int_list a t0 p.isList hu0
 | str a=>
  obtain rfl:x = .str a:=hx
  obtain ⟨t0,rfl⟩:=rx
  cases e with
  | non=>obtain rfl:y = .non:=hy;obtain rfl:v=Value.none:=ry;unfold eqD;exact RcNeAt.str_none a t0
  | bl b=>obtain rfl:y = .bl b:=hy;obtain rfl:v=Value.bool b:=ry;unfold eqD;exact RcNeAt.str_bool a t0 b
  | int b=>obtain rfl:y = .int b:=hy;obtain ⟨t,rfl⟩:=ry;unfold eqD;exact RcNeAt.str_int a t0 b t
  | str b=>obtain rfl:y = .str b:=hy;obtain ⟨t,rfl⟩:=ry;unfold eqD;exact RcNeAt.str_str a t0 b t
  | tup es=>obtain ⟨b,ys,rfl,hq,_⟩:=hy;obtain rfl:v=Value.ref b:=ry;obtain ⟨its,_,p,_⟩:=I.tuple hq;unfold eqD;exact RcNeAt.str_tuple a t0 (show s.heap.IsTuple b its.toArray from p) hu0
  | lst es=>obtain ⟨b,ys,rfl,hq,_⟩:=hy;obtain rfl:v=Value.ref b:=ry;obtain ⟨its,_,p,_⟩:=I.list hq;unfold eqD;exact RcNeAt.str_list a t0 p.isList hu0
 | tup ds=>
  have hdd:jZ ds≤100:=by unfold dep at hd;omega
  obtain ⟨a,xs,rfl,hq,hl⟩:=hx
  obtain rfl:u=Value.ref a:=rx
  obtain ⟨its,rv,p,_⟩:=I.tuple hq
  have p:s.heap.IsTuple a its.toArray:=p
  cases e with
  | non=>obtain rfl:y = .non:=hy;obtain rfl:v=Value.none:=ry;unfold eqD;exact RcNeAt.tuple_none p hu0
  | bl b=>obtain rfl:y = .bl b:=hy;obtain rfl:v=Value.bool b:=ry;unfold eqD;exact RcNeAt.tuple_bool b p hu0
  | int b=>obtain rfl:y = .int b:=hy;obtain ⟨t,rfl⟩:=ry;unfold eqD;exact RcNeAt.tuple_int b t p hu0
  | str b=>obtain rfl:y = .str b:=hy;obtain ⟨t,rfl⟩:=ry;unfold eqD;exact RcNeAt.tuple_str b t p hu0
  | lst es=>obtain ⟨b,ys,rfl,hq',_⟩:=hy;obtain rfl:v=Value.ref b:=ry;obtain ⟨its',_,p',_⟩:=I.list hq';unfold eqD;exact RcNeAt.tuple_list p p'.isList hu0
  | tup es=>
   obtain ⟨b,ys,rfl,hq',hl'⟩:=hy
   obtain rfl:v=Value.ref b:=ry
   obtain ⟨its',rv',p',_⟩:=I.tuple hq'
   have p':s.heap.IsTuple b its'.toArray:=p'
   have he:=kZ (A:=A.in1) (s:=s) hl rv hl' rv' (fun d e x y u v ⟨j,hj⟩ r1 r2 s1 s2=>(I.eq_sh 100 A.in1 d e x y u v (Nat.le_trans (pM hj) hdd) (by show A.units+1+100<cLine;omega) r1 r2 s1 s2).2)
   have rc:=RcNeAt.tuples p p' hu0 he
   have l1:=hl.length
   have l2:=rv.length
   have l3:=hl'.length
   have l4:=rv'.length
   rw [List.size_toArray,List.size_toArray,← l2,← l4,← l1,← l3,lC] at rc
   unfold eqD
   exact rc
 | lst ds=>
  have hdd:jZ ds≤100:=by unfold dep at hd;omega
  obtain ⟨a,xs,rfl,hq,hl⟩:=hx
  obtain rfl:u=Value.ref a:=rx
  obtain ⟨its,rv,p,_⟩:=I.list hq
  have p:=p.isList
  cases e with
  | non=>obtain rfl:y = .non:=hy;obtain rfl:v=Value.none:=ry;unfold eqD;exact RcNeAt.list_none p hu0
  | bl b=>obtain rfl:y = .bl b:=hy;obtain rfl:v=Value.bool b:=ry;unfold eqD;exact RcNeAt.list_bool b p hu0
  | int b=>obtain rfl:y = .int b:=hy;obtain ⟨t,rfl⟩:=ry;unfold eqD;exact RcNeAt.list_int b t p hu0
  | str b=>obtain rfl:y = .str b:=hy;obtain ⟨t,rfl⟩:=ry;unfold eqD;exact RcNeAt.list_str b t p hu0
  | tup es=>obtain ⟨b,ys,rfl,hq',_⟩:=hy;obtain rfl:v=Value.ref b:=ry;obtain ⟨its',_,p',_⟩:=I.tuple hq';unfold eqD;exact RcNeAt.list_tuple p (show s.heap.IsTuple b its'.toArray from p') hu0
  | lst es=>
   obtain ⟨b,ys,rfl,hq',hl'⟩:=hy
   obtain rfl:v=Value.ref b:=ry
   obtain ⟨its',rv',p',_⟩:=I.list hq'
   have p':=p'.isList
   have l1:=hl.length
   have l2:=rv.length
   have l3:=hl'.length
   have l4:=rv'.length
   unfold eqD
   by_cases hz:ds.length=es.length
   ·have he:=kZ (A:=A.in1) (s:=s) hl rv hl' rv' (fun d e x y u v ⟨j,hj⟩ r1 r2 s1 s2=>(I.eq_sh 100 A.in1 d e x y u v (Nat.le_trans (pM hj) hdd) (by show A.units+1+100<cLine;omega) r1 r2 s1 s2).2)
    have rc:=RcNeAt.lists p p' (by rw [List.size_toArray,List.size_toArray];omega) hu0 he
    rw [List.size_toArray,← l2,← l1] at rc
    have q:=lC ds es
    rw [← hz,Nat.min_self,beq_self_eq_true,Bool.and_true] at q
    rw [← q]
    exact rc
   ·have q:eqL ds es=false:=by
     cases q:eqL ds es with
     | false=>rfl
     | true=>exact absurd (jX q) hz
    rw [q]
    exact RcNeAt.lists_lengths p p' (by rw [List.size_toArray,List.size_toArray];simp;omega) hu0
noncomputable def aCP (K:PySem.W.Frag):R2:=fun x y H Q=>∃ d e,dep d≤100∧Sh K H d x∧Sh K H e y∧Q (.bl (!eqD d e)) H
theorem aDo (hu:X.A.units+101<cLine):OpR X (compareOp .NotEq) (aCP X.K):=by
 intro pins s σ H x y v u Q I rx ry ⟨d,e,hd,hx,hy,q⟩
 exact (I.ne_sh d e x y v u hd hu rx ry hx hy) X.prog X.w X.xe _ ⟨.bl _,H,I,rfl,q⟩
noncomputable def aBE:Dt→String→Bool
 | .non,_=>false
 | .bl _,T=>T == "bool" || T == "int"
 | .int _,T=>T == "int"
 | .str _,T=>T == "str"
 | .tup _,T=>T == "tuple"
 | .lst _,T=>T == "list"
noncomputable def aDu (K:PySem.W.Frag):List V→Hp→VK→Prop:=fun vs H Q=>∃ x d T,vs=[x, .ty T]∧(T="int"∨T="bool"∨T="tuple"∨T="list"∨T="str")∧Sh K H d x∧Q (.bl (aBE d T)) H
theorem zW:CallR X (.builtin "isinstance") (aDu X.K):=by
 intro pins s σ H xs us Q I r ⟨x,d,T,e,hT,hx,q⟩
 subst e
 obtain ⟨u,w',rfl,rx,rt⟩:=r.two
 obtain rfl:w'=Value.type T:=rt
 have fin:∀ (b:Bool) (t:Nat),aBE d T=b→EP X pins σ Q (.bool b) { s with toks:=t }:=fun b t e=>⟨.bl b,H,I.tok t,rfl,by rw [← e];exact q⟩
 have fin0:∀ (b:Bool),aBE d T=b→EP X pins σ Q (.bool b) s:=fun b e=>⟨.bl b,H,I,rfl,by rw [← e];exact q⟩
 cases d with
 | non=>
  obtain rfl:x = .non:=hx
  obtain rfl:u=Value.none:=rx
  rcases hT with rfl | rfl | rfl | rfl | rfl
  ·exact IsiPair.NoneType_int (fin _ _ rfl)
  ·exact IsiPair.NoneType_bool (fin _ _ rfl)
  ·exact IsiPair.NoneType_tuple (fin _ _ rfl)
  ·exact IsiPair.NoneType_list (fin _ _ rfl)
  ·exact IsiPair.NoneType_str (fin _ _ rfl)
 | bl b=>
  obtain rfl:x = .bl b:=hx
  obtain rfl:u=Value.bool b:=rx
  rcases hT with rfl | rfl | rfl | rfl | rfl
  ·exact IsiPair.bool_int (fin0 _ rfl)
  ·exact IsiPair.bool_bool (fin0 _ rfl)
  ·exact IsiPair.bool_tuple (fin _ _ rfl)
  ·exact IsiPair.bool_list (fin _ _ rfl)
  ·exact IsiPair.bool_str (fin _ _ rfl)
 | int b=>
  obtain rfl:x = .int b:=hx
  obtain ⟨t,rfl⟩:=rx
  rcases hT with rfl | rfl | rfl | rfl | rfl
  ·exact IsiPair.int_int (fin0 _ rfl)
  ·exact IsiPair.int_bool (fin _ _ rfl)
  ·exact IsiPair.int_tuple (fin _ _ rfl)
  ·exact IsiPair.int_list (fin _ _ rfl)
  ·exact IsiPair.int_str (fin _ _ rfl)
 | str b=>
  obtain rfl:x = .str b:=hx
  obtain ⟨t,rfl⟩:=rx
  rcases hT with rfl | rfl | rfl | rfl | rfl
  ·exact IsiPair.str_int (fin _ _ rfl)
  ·exact IsiPair.str_bool (fin _ _ rfl)
  ·exact IsiPair.str_tuple (fin _ _ rfl)
  ·exact IsiPair.str_list (fin _ _ rfl)
  ·exact IsiPair.str_str (fin0 _ rfl)
 | tup ds=>
  obtain ⟨a,ys,rfl,hq,_⟩:=hx
  obtain rfl:u=Value.ref a:=rx
  obtain ⟨its,_,⟨o,ho,hc,_⟩,_⟩:=I.tuple hq
  rcases hT with rfl | rfl | rfl | rfl | rfl
  ·exact IsiPair.tuple_int ho hc (fin _ _ rfl)
  ·exact IsiPair.tuple_bool ho hc (fin _ _ rfl)
  ·exact IsiPair.tuple_tuple ho hc (fin0 _ rfl)
  ·exact IsiPair.tuple_list ho hc (fin _ _ rfl)
  ·exact IsiPair.tuple_str ho hc (fin _ _ rfl)
 | lst ds=>
  obtain ⟨a,ys,rfl,hq,_⟩:=hx
  obtain rfl:u=Value.ref a:=rx
  obtain ⟨its,_,p,_⟩:=I.list hq
  obtain ⟨o,ho,hc,_⟩:=p.isList
  rcases hT with rfl | rfl | rfl | rfl | rfl
  ·exact IsiPair.list_int ho hc (fin _ _ rfl)
  ·exact IsiPair.list_bool ho hc (fin _ _ rfl)
  ·exact IsiPair.list_tuple ho hc (fin _ _ rfl)
  ·exact IsiPair.list_list ho hc (fin0 _ rfl)
  ·exact IsiPair.list_str ho hc (fin _ _ rfl)
theorem sG {prog:Program}{w:World}{A:Around}(hh:A.handled=none)(It ax:Addr)(hne:ax≠It)(items:Array Value) :
  Walks prog w A It [It,ax] [It] items.size (fun i v=>items[i]?=some v) (fun i h=>h.IsTupleIter It ax i∧h.IsTuple ax items) where
 sub:=fun b hb=>by simp at hb;simp [hb]
 frame:=fun _ _ _ st hk=>⟨st.1.at fun o e=>hk It (by simp) o e,let ⟨o,e,r⟩:=st.2;⟨o,hk ax (by simp) o e,r⟩⟩
 item:=fun i s Q E hi st hQ=>by
  refine wpAny_pyNext_tuple_item st.1 st.2 (x:=items[i]) (by simp [hi]) fun h' hit' hs'=>?_
  refine hQ _ h' s.toks (by simp [hi]) ⟨hit',?_⟩ fun b o hb e=>hs'.extBut b o (fun h=>hb (by simp [h])) e
  obtain ⟨o,e,r⟩:=st.2
  exact ⟨o,hs'.extBut _ _ hne e,r⟩
 done:=fun s Q E st hQ=>wpAny_pyNext_tuple_end hh st.1 st.2 (by simp) fun h' he'=>hQ h' s.toks fun b o hb e=>he' b o (fun h=>hb (by simp [h])) e
 self:=fun _ _ _ _ st hQ=>wpAny_pyIter_tupleiter st.1 hQ
noncomputable def Sq (K:PySem.W.Frag) (H:Hp) (a:Addr) (xs:List V):Prop:=SqL K H a xs∨SqT K H a xs
theorem kX {A:Around}{a:Addr}{xs:List V}{Q:Value→Shared→Prop}{E:Value→Shared→Prop}(hh:A.handled=none)(I:Inv X pins σ H s)(h:Sq X.K H a xs)
  (hq:∀ (its:List Value) (It:Addr) (fp wr:List Addr) (S:Nat→Heap→Prop) (s2:Shared),Vals xs its→xs.length≤sizeLine→Walks X.prog X.w A It fp wr its.length (fun i v=>its[i]?=some v) S→S 0 s2.heap→(∀ b∈fp,b<s2.heap.objs.size) →
   (∀ h' tk,(∀ b o,b∉wr→s2.heap.get? b=some o→h'.get? b=some o)→Inv X pins σ H { s2 with heap:=h',toks:=tk })→Q (.ref It) s2):wpAny (model X.prog X.w) A (pyIter (.ref a)) Q E s:=by
 rcases h with h | h
 ·obtain ⟨its,rv,p,hz⟩:=I.list h
  refine wpAny_pyIter_list p.isList ?_
  have ha:a<s.heap.objs.size:=by obtain ⟨o,e,_⟩:=p.isList;exact Heap.lt_size e
  refine hq its s.heap.objs.size [s.heap.objs.size,a] [s.heap.objs.size] (fun i h=>h.IsListIter s.heap.objs.size a i∧h.IsList a its.toArray) _ rv hz (by simpa using Walks.list (prog:=X.prog) (w:=X.w) hh s.heap.objs.size a (Nat.ne_of_lt ha) its.toArray) ⟨⟨_,Heap.get?_push_size _ rfl,rfl,rfl⟩,?_⟩ (fun b hb=>?_) fun h' tk hk=>?_
  ·obtain ⟨o,e,r⟩:=p.isList
   exact ⟨o,Heap.get?_push_of_some _ e,r⟩
  ·simp at hb
   show b<(s.heap.push _).objs.size
   rw [Heap.size_push]
   rcases hb with rfl | rfl
   ·exact Nat.lt_succ_self _
   ·exact Nat.lt_succ_of_lt ha
  ·exact I.kept fun b o e=>hk b o (by simpa using Nat.ne_of_lt (Heap.lt_size e)) (Heap.get?_push_of_some _ e)
 ·obtain ⟨its,rv,p,hz⟩:=I.tuple h
  have p:s.heap.IsTuple a its.toArray:=p
  refine wpAny_pyIter_tuple p ?_
  have ha:a<s.heap.objs.size:=by obtain ⟨o,e,_⟩:=p;exact Heap.lt_size e
  refine hq its s.heap.objs.size [s.heap.objs.size,a] [s.heap.objs.size] (fun i h=>h.IsTupleIter s.heap.objs.size a i∧h.IsTuple a its.toArray) _ rv hz (by simpa using sG (prog:=X.prog) (w:=X.w) hh s.heap.objs.size a (Nat.ne_of_lt ha) its.toArray) ⟨⟨_,Heap.get?_push_size _ rfl,rfl,rfl⟩,?_⟩ (fun b hb=>?_) fun h' tk hk=>?_
  ·obtain ⟨o,e,r⟩:=p
   exact ⟨o,Heap.get?_push_of_some _ e,r⟩
  ·simp at hb
   show b<(s.heap.push _).objs.size
   rw [Heap.size_push]
   rcases hb with rfl | rfl
   ·exact Nat.lt_succ_self _
   ·exact Nat.lt_succ_of_lt ha
  ·exact I.kept fun b o e=>hk b o (by simpa using Nat.ne_of_lt (Heap.lt_size e)) (Heap.get?_push_of_some _ e)
theorem Vals.getR:∀ {xs:List V} {us:List Value} {i:Nat} {u:Value},Vals xs us→us[i]?=some u→∃ x,xs[i]?=some x∧RelV x u
 | _,_,_,_, .nil,e=>by simp at e
 | _,_,0,_, .cons r _,e=>by simp at e;subst e;exact ⟨_,rfl,r⟩
 | _,_,i+1,u, .cons _ t,e=>by
  obtain ⟨x,h1,h2⟩:=Vals.getR (i:=i) (u:=u) t (by simpa using e)
  exact ⟨x,by simpa using h1,h2⟩
theorem aAE (hc:X.calm=true):CallR X (.builtin "all") (fun vs H Q=>∃ (a:Addr) (bs:List Bool),vs=[.ref a]∧Sq X.K H a (bs.map V.bl)∧Q (.bl (bs.all id)) H):=by
 intro pins s σ H xs us Q I r ⟨a,bs,e,hq,q⟩
 subst e
 obtain ⟨u,rfl,ru⟩:=r.one
 obtain rfl:u=Value.ref a:=ru
 refine call_all_walk (kX (I.ok.hd hc) I hq fun its It fp wr S s2 rv hz W st hf hI=>?_)
 refine ⟨It,fp,wr,its.length,_,S,fun j=>bs.getD j false,rfl,W,st,fun i v s' Q' E' hv hQ'=>?_,fun h' tk hk=>?_⟩
 ·obtain ⟨x,hx,rx⟩:=rv.getR hv
  rw [List.getElem?_map] at hx
  cases hb:bs[i]? with
  | none=>rw [hb] at hx;cases hx
  | some b=>
   rw [hb] at hx
   obtain rfl:V.bl b=x:=by simpa using hx
   obtain rfl:v=Value.bool b:=rx
   have:bs.getD i false=b:=by rw [List.getD_eq_getElem?_getD,hb];rfl
   have hQ':Q' (bs.getD i false) s':=hQ'
   rw [this] at hQ'
   exact wpAny_truthy_bool hQ'
 ·refine ⟨.bl (bs.all id),H,hI h' tk hk,?_,q⟩
  show Value.bool _=Value.bool _
  congr 1
  have hl:its.length=bs.length:=by rw [← rv.length,List.length_map]
  rw [hl]
  clear q hq rv hl hz
  induction bs with
  | nil=>rfl
  | cons b bs ih=>rw [List.length_cons,gY,List.all_cons];exact congrArg (fun z=>b && z) ih
theorem lI:∀ (ns:List Int) (k:Nat),k≤ns.length→preSum (fun j=>ns.getD j 0) k=(ns.take k).sum
 | ns,0,_=>by simp [preSum]
 | ns,k+1,h=>by
  have e:ns.take (k+1)=ns.take k++[ns[k]]:=by
   rw [List.take_add_one,List.getElem?_eq_getElem (by omega)];rfl
  have g:ns.getD k 0=ns[k]:=by rw [List.getD_eq_getElem?_getD,List.getElem?_eq_getElem (by omega)];rfl
  rw [preSum,lI ns k (by omega),e,List.sum_append_int,g]
  simp
theorem aAc (hc:X.calm=true):CallR X (.builtin "sum") (fun vs H Q=>∃ (a:Addr) (ns:List Int),vs=[.ref a]∧Sq X.K H a (ns.map V.int)∧Q (.int ns.sum) H):=by
 intro pins s σ H xs us Q I r ⟨a,ns,e,hq,q⟩
 subst e
 obtain ⟨u,rfl,ru⟩:=r.one
 obtain rfl:u=Value.ref a:=ru
 refine call_sum_walkG (kX (I.ok.hd hc) I hq fun its It fp wr S s2 rv hz W st hf hI=>?_)
 refine ⟨It,fp,wr,its.length,_,S,fun j=>ns.getD j 0,rfl,W,st,hf,fun i v hv=>?_,fun h' tk t' hk=>?_⟩
 ·obtain ⟨x,hx,rx⟩:=rv.getR hv
  rw [List.getElem?_map] at hx
  cases hb:ns[i]? with
  | none=>rw [hb] at hx;cases hx
  | some b=>
   rw [hb] at hx
   obtain rfl:V.int b=x:=by simpa using hx
   obtain ⟨t,rfl⟩:=rx
   exact ⟨t,by show Value.int b t=Value.int (ns.getD i 0) t;rw [List.getD_eq_getElem?_getD,hb];rfl⟩
 ·have hl:its.length=ns.length:=by rw [← rv.length,List.length_map]
  refine ⟨.int ns.sum,H,hI h' tk hk,⟨t',?_⟩,q⟩
  rw [hl,lI ns ns.length (Nat.le_refl _),List.take_length]
theorem nQ {bt:Nat→Nat→Bool}:∀ k,argBest bt k≤k
 | 0=>Nat.le_refl _
 | k+1=>by
  unfold argBest
  split
  ·exact Nat.le_refl _
  ·exact Nat.le_succ_of_le (nQ k)
theorem iG {ns:List Int}:∀ (k:Nat),∀ j,j≤k→ns.getD (argBest (fun i j=>decide (ns.getD i 0<ns.getD j 0)) k) 0≤ns.getD j 0
 | 0,j,h=>by
  have:j=0:=by omega
  subst this
  exact Int.le_refl _
 | k+1,j,h=>by
  have ih:=iG (ns:=ns) k
  unfold argBest
  by_cases c:ns.getD (k+1) 0<ns.getD (argBest (fun i j=>decide (ns.getD i 0<ns.getD j 0)) k) 0
  ·rw [if_pos (decide_eq_true c)]
   by_cases e:j=k+1
   ·subst e;exact Int.le_refl _
   ·have:=ih j (by omega);omega
  ·rw [if_neg (by simpa using c)]
   by_cases e:j=k+1
   ·subst e;omega
   ·exact ih j (by omega)
theorem aAC (hc:X.calm=true):CallR X (.builtin "min") (fun vs H Q=>∃ (a:Addr) (ns:List Int),vs=[.ref a]∧Sq X.K H a (ns.map V.int)∧ns≠[]∧∀ m:Int,m∈ns→(∀ k∈ns,m≤k)→Q (.int m) H):=by
 intro pins s σ H xs us Q I r ⟨a,ns,e,hq,hne,q⟩
 subst e
 obtain ⟨u,rfl,ru⟩:=r.one
 obtain rfl:u=Value.ref a:=ru
 refine call_min_walk (kX (I.ok.hd hc) I hq fun its It fp wr S s2 rv hz W st hf hI=>?_)
 have hl:its.length=ns.length:=by rw [← rv.length,List.length_map]
 have hpos:0<ns.length:=List.length_pos_iff.mpr hne
 have item:∀ (i:Nat) (v:Value),its[i]?=some v→∃ t,v = .int (ns.getD i 0) t:=fun i v hv=>by
  obtain ⟨x,hx,rx⟩:=rv.getR hv
  rw [List.getElem?_map] at hx
  cases hb:ns[i]? with
  | none=>rw [hb] at hx;cases hx
  | some b=>
   rw [hb] at hx
   obtain rfl:V.int b=x:=by simpa using hx
   obtain ⟨t,rfl⟩:=rx
   exact ⟨t,by rw [List.getD_eq_getElem?_getD,hb];rfl⟩
 refine ⟨It,fp,wr,its.length,_,S,fun i j=>decide (ns.getD i 0<ns.getD j 0),rfl,W,st,hf,by omega,fun i j vi vj s' Q' E' hi hj hQ'=>?_,fun v h' tk hv hk=>?_⟩
 ·obtain ⟨t,rfl⟩:=item i vi hi
  obtain ⟨t',rfl⟩:=item j vj hj
  exact (lt_int hQ':wpAny (model X.prog X.w) X.A.in1 (compareOp .Lt _ _) Q' E' s')
 ·obtain ⟨t,rfl⟩:=item _ v hv
  have hb:=nQ (bt:=fun i j=>decide (ns.getD i 0<ns.getD j 0)) (its.length - 1)
  refine ⟨.int _,H,hI h' tk hk,⟨t,rfl⟩,q _ ?_ fun k hk=>?_⟩
  ·rw [List.getD_eq_getElem?_getD,List.getElem?_eq_getElem (by omega)]
   exact List.getElem_mem _
  ·obtain ⟨j,hj,rfl⟩:=List.mem_iff_getElem.mp hk
   have:=iG (ns:=ns) (its.length - 1) j (by omega)
   rw [List.getD_eq_getElem?_getD (l:=ns) (i:=j),List.getElem?_eq_getElem hj] at this
   exact this
end
end L2
namespace L2
open PySem PySem.Spec PyProof.Rows
section
variable {X:Cx}
noncomputable def aDS (K:PySem.W.Frag):R2:=fun x y H Q=>∃ a b xs ys,x = .ref a∧y = .ref b∧SqT K H a xs∧SqT K H b ys∧xs.length+ys.length≤sizeLine ∧
 ∀ p H',((p=a∧H'=H∧ys=[])∨(p=b∧H'=H∧xs=[])∨(H p=none∧H'=upd H p (.tup (xs++ys))))→SqT K H' p (xs++ys)→Same H H'→Q (.ref p) H'
theorem aH {H:Hp}{p:Addr}(h:H p=none)(o:HO):Same H (upd H p o):=fun b u q=>by rw [aP (aM q h)];exact q
theorem aBM:OpR X (binaryOp .Add) (aDS X.K):=by
 intro pins s σ H x y v u Q I rx ry ⟨a,b,xs,ys,ex,ey,ha,hb,hz,q⟩
 subst ex ey
 obtain rfl:v=Value.ref a:=rx
 obtain rfl:u=Value.ref b:=ry
 by_cases hx:xs=[]
 ·obtain ⟨its,r1,p1,_⟩:=I.tuple ha
  obtain ⟨its2,r2,p2,_⟩:=I.tuple hb
  have he:its=[]:=r1.nil_iff.mpr hx
  obtain ⟨⟨cls,dd,data,sl⟩,ho,hc,n,hd⟩:=id p1
  obtain ⟨⟨cls2,dd2,data2,sl2⟩,ho2,hc2,n2,hd2⟩:=id p2
  simp only at hc hd hc2 hd2
  subst hc hd hc2 hd2
  refine concat_meets ⟨_,ho,rfl⟩ ⟨_,ho2,rfl⟩ noFill_tuple_add seq_tuple_add PySem.F.slot_tuple_add PySem.F.entry_tuple_add (PySem.F.args_tuple_add_2 _ _)
   (tuple_addW0 a b its.toArray its2.toArray n n2 dd dd2 sl sl2 (by simp [he])) ⟨ho,ho2,?_⟩
  exact ⟨.ref b,H,I,rfl,q b H (.inr (.inl ⟨rfl,rfl,hx⟩)) (by rw [hx];exact hb) (Same.refl H)⟩
 ·refine aCk (X:=X) pins s σ H (.ref a) (.ref b) (.ref a) (.ref b) Q I rfl rfl ⟨a,b,xs,ys,rfl,rfl,ha,hb,hx,hz,fun hy=>?_,fun hy p hp=>?_⟩
  ·exact q a H (.inl ⟨rfl,rfl,hy⟩) (by rw [hy,List.append_nil];exact ha) (Same.refl H)
  ·exact q p _ (.inr (.inr ⟨hp,rfl⟩)) (.of aD) (aH hp _)
noncomputable def bD (K:PySem.W.Frag):R2:=fun x y H Q=>match x,y with
 | .int i, .int j=>Q (.int (i+j)) H
 | .str i, .str j=>i.length+j.length≤sizeLine∧Q (.str (i++j)) H
 | .ref a, .ref b=>aFl (.ref a) (.ref b) H Q∨aDS K (.ref a) (.ref b) H Q
 | _,_=>False
theorem aBY:OpR X (binaryOp .Add) (bD X.K):=by
 intro pins s σ H x y v u Q I rx ry h
 unfold bD at h
 split at h
 ·exact aDc (X:=X) pins s σ H _ _ v u Q I rx ry ⟨_,_,rfl,rfl,h⟩
 ·exact vA (X:=X) pins s σ H _ _ v u Q I rx ry ⟨_,_,rfl,rfl,h.1,h.2⟩
 ·rcases h with h | h
  ·exact aDz (X:=X) pins s σ H _ _ v u Q I rx ry h
  ·exact aBM (X:=X) pins s σ H _ _ v u Q I rx ry h
 ·exact h.elim
noncomputable def eN:R2:=fun x y H Q=>match x,y with
 | .int i, .int j=>CMul i j∧Q (.int (i*j)) H
 | .ref a, .int k=>aFd (.ref a) (.int k) H Q
 | _,_=>False
theorem dQ:OpR X (binaryOp .Mult) eN:=by
 intro pins s σ H x y v u Q I rx ry h
 unfold eN at h
 split at h
 ·exact aCY (X:=X) pins s σ H _ _ v u Q I rx ry ⟨_,_,rfl,rfl,h.1,h.2⟩
 ·exact aDJ (X:=X) pins s σ H _ _ v u Q I rx ry h
 ·exact h.elim
theorem aEP:IxR X (fun x y H Q=>aEr X.K x y H Q∨aEw X.K x y H Q):=aBU.or aDn
theorem Vals.of_get:∀ {xs:List V} {us:List Value},xs.length=us.length→(∀ (i:Nat) x u,xs[i]?=some x→us[i]?=some u→RelV x u)→Vals xs us
 | [],[],_,_ => .nil
 | [],_ :: _,h,_=>by simp at h
 | _ :: _,[],h,_=>by simp at h
 | x :: xs,u :: us,h,hr => .cons (hr 0 x u rfl rfl) (Vals.of_get (by simpa using h) fun i y w h1 h2=>hr (i+1) y w (by simpa using h1) (by simpa using h2))
theorem wX:CallR X (.type "range") (fun vs H Q=>∃ n:Int,vs=[.int n]∧∀ p,H p=none→Q (.ref p) (upd H p (.rng 0 n))):=by
 intro pins s σ H xs us Q I r ⟨n,e,q⟩
 subst e
 obtain ⟨u,rfl,ru⟩:=r.one
 obtain ⟨t,rfl⟩:=ru
 refine call_range_1 ⟨.ref s.heap.objs.size,_,I.laid (a:=s.heap.objs.size) (o := .rng 0 n) (fun b o e=>Heap.get?_push_of_some _ e) (Nat.le_refl _) ⟨_,_,_,Heap.get?_push_size _ rfl⟩,rfl,q _ (I.hok.fresh (Nat.le_refl _))⟩
theorem wC:CallR X (.type "range") (fun vs H Q=>∃ m n:Int,vs=[.int m, .int n]∧∀ p,H p=none→Q (.ref p) (upd H p (.rng m n))):=by
 intro pins s σ H xs us Q I r ⟨m,n,e,q⟩
 subst e
 obtain ⟨u,u',rfl,ru,ru'⟩:=r.two
 obtain ⟨t,rfl⟩:=ru
 obtain ⟨t',rfl⟩:=ru'
 refine call_range_2 ⟨.ref s.heap.objs.size,_,I.laid (a:=s.heap.objs.size) (o := .rng m n) (fun b o e=>Heap.get?_push_of_some _ e) (Nat.le_refl _) ⟨_,_,_,Heap.get?_push_size _ rfl⟩,rfl,q _ (I.hok.fresh (Nat.le_refl _))⟩
theorem zS:CallR X (.type "range") (fun vs H Q=>(∃ n:Int,vs=[.int n]∧∀ p,H p=none→Q (.ref p) (upd H p (.rng 0 n)))∨∃ m n:Int,vs=[.int m, .int n]∧∀ p,H p=none→Q (.ref p) (upd H p (.rng m n))):=wX.or wC
noncomputable def oN (lo hi:Int):List Int:=(List.range (hi - lo).toNat).map fun i:Nat=>lo+(i:Int)
theorem pJ (hc:X.calm=true):CallR X (.type "list") (fun vs H Q=>∃ (a:Addr) (lo hi:Int),vs=[.ref a]∧H a=some (.rng lo hi)∧(-(2 ^ 62)≤lo∧lo<2 ^ 62∧-(2 ^ 62)≤hi∧hi<2 ^ 62∧hi - lo≤1000000) ∧
  ∀ p,H p=none→Q (.ref p) (upd H p (.lst ((oN lo hi).map V.int)))):=by
 intro pins s σ H xs us Q I r ⟨a,lo,hi,e,ha,⟨b1,b2,b3,b4,b5⟩,q⟩
 subst e
 obtain ⟨u,rfl,ru⟩:=r.one
 obtain rfl:u=Value.ref a:=ru
 obtain ⟨t,u,v,hr⟩:=I.hok a _ ha
 refine call_list_range (a:=lo) (b:=hi) (c:=1) (n:=(hi - lo).toNat) (I.ok.hd hc) hr (small_one b1 b2 b3 b4) (by rw [rangeSize_one];split <;> omega) (by omega) fun h' tk acc' c' hk hS hI=>?_
 refine ⟨.ref s.heap.objs.size,_,I.laid (a:=s.heap.objs.size) (o := .lst ((oN lo hi).map V.int)) hk (Nat.le_refl _) ⟨?_,acc'.toList,c',?_,by simpa using hS⟩,rfl,q _ (I.hok.fresh (Nat.le_refl _))⟩
 ·rw [List.length_map];unfold oN;rw [List.length_map,List.length_range]
  exact Nat.le_trans (show (hi - lo).toNat≤1000000 by omega) (by decide)
 ·refine Vals.of_get ?_ fun i x u hx hu=>?_
  ·have el:acc'.toList.length=(hi - lo).toNat:=by rw [← hI.1];simp
   rw [List.length_map,el];unfold oN;rw [List.length_map,List.length_range]
  ·obtain ⟨t,rfl⟩:=hI.2 i u (by simpa using hu)
   rw [List.getElem?_map] at hx
   unfold oN at hx
   rw [List.getElem?_map] at hx
   cases hi':(List.range (hi - lo).toNat)[i]? with
   | none=>rw [hi'] at hx;cases hx
   | some j=>
    rw [hi'] at hx
    have:j=i:=by
     obtain ⟨h1,h2⟩:=List.getElem?_eq_some_iff.mp hi'
     simpa using h2.symm
    subst this
    obtain rfl:V.int (lo+(j:Int))=x:=by simpa using hx
    exact ⟨t,by rw [Int.mul_one]⟩
theorem pN (hc:X.calm=true):CallR X (.type "list") (fun vs H Q=>(∃ p ys,vs=[.ref p]∧(SqL X.K H p ys∨SqT X.K H p ys)∧∀ l,H l=none→Q (.ref l) (upd H l (.lst ys))) ∨
  ∃ (a:Addr) (lo hi:Int),vs=[.ref a]∧H a=some (.rng lo hi)∧(-(2 ^ 62)≤lo∧lo<2 ^ 62∧-(2 ^ 62)≤hi∧hi<2 ^ 62∧hi - lo≤1000000)∧∀ p,H p=none→Q (.ref p) (upd H p (.lst ((oN lo hi).map V.int)))):=qI.or (pJ hc)
noncomputable def uQ (K:PySem.W.Frag) (tl:TE):TI:=fun σ H R=>tl σ H fun x H1=>∃ a,x = .ref a∧(((∃ xs,SqL K H1 a xs)∧R (Itl K a) H1)∨((∃ xs,SqT K H1 a xs)∧R (Itt K a) H1))
theorem aDY {tg l:Expr}{tl:TE}(hl:PE X l tl):PI X tg l (uQ X.K tl):=by
 intro pins s σ H R I h
 refine thn (hl pins s σ H _ I h) fun v s1 ⟨x,H1,I1,r1,q1⟩=>?_
 obtain ⟨a,e,q⟩:=q1
 subst e
 cases r1
 rcases q with ⟨⟨xs,hq⟩,q⟩ | ⟨⟨xs,hq⟩,q⟩
 ·obtain ⟨its,rv,p,hz⟩:=I1.list hq
  refine wpAny_pyIter_list p.isList ?_
  refine ⟨s1.heap.objs.size,[s1.heap.objs.size],_,_,H1,rfl,I1.kept (t':=s1.toks) fun b o e=>Heap.get?_push_of_some _ e,vX a _,⟨_,Heap.get?_push_size _ rfl,rfl,rfl⟩,fun b hb=>?_,q⟩
  have e:b=s1.heap.objs.size:=by simpa using hb
  subst e
  exact I1.fpOk (Nat.le_refl _) (I1.hok.fresh (Nat.le_refl _))
 ·obtain ⟨its,rv,p,hz⟩:=I1.tuple hq
  refine wpAny_pyIter_tuple (show s1.heap.IsTuple a its.toArray from p) ?_
  refine ⟨s1.heap.objs.size,[s1.heap.objs.size],_,_,H1,rfl,I1.kept (t':=s1.toks) fun b o e=>Heap.get?_push_of_some _ e,vB a _,⟨_,Heap.get?_push_size _ rfl,rfl,rfl⟩,fun b hb=>?_,q⟩
  have e:b=s1.heap.objs.size:=by simpa using hb
  subst e
  exact I1.fpOk (Nat.le_refl _) (I1.hok.fresh (Nat.le_refl _))
end
structure Def (P:Program)(w:World)(K:PySem.W.Frag)(mg:Str→Option Value)(base:Heap)(x:Str)(k:Nat)(ps:List Str)(sp:Sp):Prop where
 ex:∃ (f:Addr) (fd:FuncData),FnOk P w K mg base CX0 k f fd ps sp∧mg x=some (.ref f)∧PySem.W.keepIn K (.ref f)=true∧Binds K fd ps []
theorem Def.mono {P:Program}{w:World}{K:PySem.W.Frag}{mg:Str→Option Value}{base:Heap}{x:Str}{j k:Nat}{ps:List Str}{sp:Sp}(D:Def P w K mg base x j ps sp)(h:j≤k):Def P w K mg base x k ps sp:=by
 obtain ⟨f,fd,F,r⟩:=D.ex
 exact ⟨f,fd,F.mono h,r⟩
theorem aX {X:Cx}{x:Str}{k:Nat}{ps:List Str}{sp:Sp}{p pos:Pos}{e:Expr}{es:List Expr}{t:TA}(D:Def X.prog X.w X.K X.mg X.base x k ps sp)(hr:Room k X.A)(hg:Gl X x)(ha:PA X (e :: es) t)
  (hdb:(x == ("__debug__" : Str))=false:=by decide) (he:starEach (e :: es) X.env=(false,eval e X.env) :: starEach es X.env:=by rfl) (hpl:(backTo pos (starEach es X.env)).any (·.1)=false:=by rfl) :
  PE X (.Call (.Name x p) (e :: es) [] pos) (aW sp [] E0 t):=by
 obtain ⟨f,fd,F,hm,hk,hb⟩:=D.ex
 exact aBQ F hr hg hm hk hb .nil aEU ha hdb he hpl
end L2
namespace L2
open PySem PySem.Spec PyProof.Rows
noncomputable def SameX (acc:Addr) (H H':Hp):Prop:=∀ b o,b≠acc→H b=some o→H' b=some o
theorem SameX.refl (acc:Addr)(H:Hp):SameX acc H H:=fun _ _ _ h=>h
theorem SameX.trans {acc:Addr}{H H1 H2:Hp}(a:SameX acc H H1)(b:SameX acc H1 H2):SameX acc H H2:=fun c o n h=>b c o n (a c o n h)
theorem Same.x {acc:Addr}{H H':Hp}(e:Same H H'):SameX acc H H':=fun b o _ h=>e b o h
theorem SameX.put {acc:Addr}{H:Hp}(o:HO):SameX acc H (upd H acc o):=fun b u n h=>by rw [aP n];exact h
noncomputable def Agree (vars:List Nat) (σ σ':St):Prop:=∀ k,k∉vars→σ'[k]?=σ[k]?
theorem Agree.refl (vars:List Nat)(σ:St):Agree vars σ σ:=fun _ _=>rfl
theorem Agree.trans {vars:List Nat}{σ σ1 σ2:St}(a:Agree vars σ σ1)(b:Agree vars σ1 σ2):Agree vars σ σ2:=fun k h=>(b k h).trans (a k h)
theorem Agree.set {vars:List Nat}{σ:St}{j:Nat}(h:j∈vars)(v:Option V):Agree vars σ (σ.set j v):=fun k hk=>List.getElem?_set_ne (fun e:j=k=>hk (by rw [← e];exact h))
theorem kM {σ:St}{j:Nat}{v:Option V}(h:j<σ.length):(σ.set j v)[j]?=some v:=List.getElem?_set_self h
noncomputable def Emits (vars:List Nat) (tb:TS) (acc:Addr) (σ:St) (H:Hp) (L:List V):Prop:=
 ∀ (D:iE) (pre:List V),H acc=some (.lst pre)→pre.length+L.length≤1000000→(∀ σ' H',σ'.length=σ.length→Agree vars σ σ'→SameX acc H H'→H' acc=some (.lst (pre++L))→D.nx σ' H')→tb D σ H
theorem iN {vars:List Nat}{te:TE}{acc:Addr}{σ:St}{H:Hp}{x:V}(h:∀ Q:VK,(∀ H',Same H H'→Q x H')→te σ H Q):Emits vars (dO te acc) acc σ H [x]:=by
 intro D pre ha hz hd
 refine h _ fun H' e=>⟨pre,e _ _ ha,?_,hd σ _ rfl (Agree.refl _ _) (e.x.trans (SameX.put _)) aD⟩
 exact Nat.lt_of_le_of_lt (show pre.length≤1000000 by simp at hz;omega) (by decide)
theorem zQ {vars:List Nat}{tc:TT}{tb:TS}{acc:Addr}{σ:St}{H:Hp}{c:Bool}{L:List V}(hne:∀ pre,H acc=some (.lst pre)→True)(h:∀ Q:Bool→Hp→Prop,(∀ H',Same H H'→Q c H')→tc σ H Q)(hb:c=true→∀ H',Same H H'→Emits vars tb acc σ H' L) :
  Emits vars (kR [tc] tb) acc σ H (if c=true then L else []):=by
 intro D pre ha hz hd
 refine h _ fun H' e=>?_
 cases c with
 | true=>
  refine aEy (hb rfl H' e D pre (e _ _ ha) hz fun σ' H2 hl ag sx h2=>hd σ' H2 hl ag (e.x.trans sx) h2)
 | false=>exact aDA (hd σ H' rfl (Agree.refl _ _) e.x (by rw [if_neg Bool.false_ne_true,List.append_nil];exact e _ _ ha))
theorem aL {α:Type}(f:Nat→List α)(i:Nat):(List.range (i+1)).flatMap f=(List.range i).flatMap f++f i:=by
 rw [List.range_succ,List.flatMap_append]
 simp
theorem cD {α:Type}(f:Nat→List α){i n:Nat}(h:i≤n):((List.range i).flatMap f).length≤((List.range n).flatMap f).length:=by
 induction h with
 | refl=>exact Nat.le_refl _
 | step _ ih=>rw [aL,List.length_append];omega
theorem nN {vars:List Nat}{tb:TS}{acc:Addr}{σ:St}{H:Hp}{lo:Int}{n j:Nat}{L:Nat→List V}(hj:j∈vars)(hjl:j<σ.length)
  (h:∀ i σ' H',i<n→σ'.length=σ.length→Agree vars σ σ'→σ'[j]?=some (some (.int (lo+(i:Int))))→SameX acc H H'→(∃ pre,H' acc=some (.lst pre))→Emits vars tb acc σ' H' (L i)) :
  Emits vars (fK (Itr lo n) (aN j) tb) acc σ H ((List.range n).flatMap L):=by
 intro D pre ha hz hd
 refine dY (lo:=lo) (n:=n) (g:=aN j) (D:=D) (fun i σ' H'=>i≤n∧σ'.length=σ.length∧Agree vars σ σ'∧SameX acc H H'∧H' acc=some (.lst (pre++(List.range i).flatMap L))) ⟨Nat.zero_le _,rfl,Agree.refl _ _,SameX.refl _ _,by simpa using ha⟩ (fun i σ1 H1 hi ⟨_,hl1,ag1,sx1,h1⟩=>?_) fun σ1 H1 ⟨_,hl1,ag1,sx1,h1⟩=>hd σ1 H1 hl1 ag1 sx1 h1
 have hle:=cD L (show i+1≤n from hi)
 rw [aL,List.length_append] at hle
 have fin:∀ σ' H',σ'.length=σ1.length→Agree vars (σ1.set j (some (.int (lo+(i:Int))))) σ'→SameX acc H1 H'→H' acc=some (.lst ((pre++(List.range i).flatMap L)++L i)) →
   (i+1≤n∧σ'.length=σ.length∧Agree vars σ σ'∧SameX acc H H'∧H' acc=some (.lst (pre++(List.range (i+1)).flatMap L))):=fun σ' H' hl ag sx h2=>
  ⟨hi,hl.trans hl1,(ag1.trans (Agree.set hj _)).trans ag,sx1.trans sx,by rw [h2,aL,List.append_assoc]⟩
 refine h i (σ1.set j (some (.int (lo+(i:Int))))) H1 hi (by rw [List.length_set];exact hl1) (ag1.trans (Agree.set hj _)) (kM (by omega)) sx1 ⟨_,h1⟩ _ _ h1 (by rw [List.length_append];omega) fun σ' H' hl ag sx h2=>fin σ' H' (hl.trans (List.length_set ..)) ag sx h2
theorem zT {K:PySem.W.Frag}{vars:List Nat}{tb:TS}{acc a:Addr}{σ:St}{H:Hp}{xs:List V}{j:Nat}{L:Nat→List V}(hj:j∈vars)(hjl:j<σ.length)(hs:∀ H',SameX acc H H'→SqT K H' a xs)
  (h:∀ i x σ' H',xs[i]?=some x→σ'.length=σ.length→Agree vars σ σ'→σ'[j]?=some (some x)→SameX acc H H'→(∃ pre,H' acc=some (.lst pre))→Emits vars tb acc σ' H' (L i)) :
  Emits vars (fK (Itt K a) (aN j) tb) acc σ H ((List.range xs.length).flatMap L):=by
 intro D pre ha hz hd
 refine zK (K:=K) (a:=a) (xs:=xs) (g:=aN j) (D:=D) (fun i σ' H'=>i≤xs.length∧σ'.length=σ.length∧Agree vars σ σ'∧SameX acc H H'∧H' acc=some (.lst (pre++(List.range i).flatMap L))) ⟨Nat.zero_le _,rfl,Agree.refl _ _,SameX.refl _ _,by simpa using ha⟩ (fun i σ1 H1 _ ⟨_,_,_,sx1,_⟩=>hs H1 sx1) (fun i x σ1 H1 hx ⟨_,hl1,ag1,sx1,h1⟩=>?_) fun σ1 H1 ⟨_,hl1,ag1,sx1,h1⟩=>hd σ1 H1 hl1 ag1 sx1 h1
 have hi:i<xs.length:=(List.getElem?_eq_some_iff.mp hx).1
 have hle:=cD L (show i+1≤xs.length from hi)
 rw [aL,List.length_append] at hle
 have fin:∀ σ' H',σ'.length=σ1.length→Agree vars (σ1.set j (some x)) σ'→SameX acc H1 H'→H' acc=some (.lst ((pre++(List.range i).flatMap L)++L i)) →
   (i+1≤xs.length∧σ'.length=σ.length∧Agree vars σ σ'∧SameX acc H H'∧H' acc=some (.lst (pre++(List.range (i+1)).flatMap L))):=fun σ' H' hl ag sx h2=>
  ⟨hi,hl.trans hl1,(ag1.trans (Agree.set hj _)).trans ag,sx1.trans sx,by rw [h2,aL,List.append_assoc]⟩
 refine h i x (σ1.set j (some x)) H1 hx (by rw [List.length_set];exact hl1) (ag1.trans (Agree.set hj _)) (kM (by omega)) sx1 ⟨_,h1⟩ _ _ h1 (by rw [List.length_append];omega) fun σ' H' hl ag sx h2=>fin σ' H' (hl.trans (List.length_set ..)) ag sx h2
end L2
namespace L2
open PySem PySem.Spec PyProof.Rows
theorem dJ:bootBuiltins "len" = some (.builtin "len"):=by decide +kernel
theorem yX:bootBuiltins "all" = some (.builtin "all"):=by decide +kernel
theorem aBf:bootBuiltins "min" = some (.builtin "min"):=by decide +kernel
theorem aBw:bootBuiltins "sum" = some (.builtin "sum"):=by decide +kernel
theorem wE:bootBuiltins "isinstance" = some (.builtin "isinstance"):=by decide +kernel
theorem lG:bootBuiltins "sorted" = some (.builtin "sorted"):=by decide +kernel
theorem iP:bootBuiltins "tuple" = some (.type "tuple"):=by decide +kernel
theorem sD:bootBuiltins "list" = some (.type "list"):=by decide +kernel
theorem uL:bootBuiltins "range" = some (.type "range"):=by decide +kernel
theorem xU:bootBuiltins "int" = some (.type "int"):=by decide +kernel
theorem aCb:bootBuiltins "bool" = some (.type "bool"):=by decide +kernel
structure Blt (mg:Str→Option Value):Prop where
 len:mg "len" = none
 all:mg "all" = none
 min:mg "min" = none
 max:mg "max" = none
 sum:mg "sum" = none
 isi:mg "isinstance" = none
 sorted:mg "sorted" = none
 tuple:mg "tuple" = none
 list:mg "list" = none
 range:mg "range" = none
 int:mg "int" = none
 bool:mg "bool" = none
end L2
namespace L2
open PySem
theorem aEO {A:Around}{k:Nat}(hr:Room k A):A.units+100<cLine:=by have:=hr.un;omega
theorem aER {A:Around}{k:Nat}(hr:Room k A):A.units+101<cLine:=by have:=hr.un;omega
end L2
namespace L2
open PySem PySem.Spec PyProof.Rows
section
variable {X:Cx}{K:PySem.W.Frag}
theorem bH (hK:X.K=K):IxR X (fun x y H Q=>aEr K x y H Q∨aEw K x y H Q):=by subst hK;exact aEP
theorem bC (hK:X.K=K):OpR X (binaryOp .Add) (bD K):=by subst hK;exact aBY
theorem iZ {k:Nat}(hK:X.K=K)(hr:Room k X.A):OpR X (compareOp .Eq) (sP K):=by subst hK;exact aDV (aEO hr)
theorem tN {k:Nat}(hK:X.K=K)(hr:Room k X.A):OpR X (compareOp .NotEq) (aCP K):=by subst hK;exact aDo (aER hr)
theorem xE (hK:X.K=K):OpR X (compareOp .NotIn) (rIn K true):=by subst hK;exact qF
theorem lY (hK:X.K=K):CallR X (.builtin "isinstance") (aDu K):=by subst hK;exact zW
noncomputable def oY (K:PySem.W.Frag):List V→Hp→VK→Prop:=fun xs H Q=>∃ p ys,xs=[.ref p]∧(SqL K H p ys∨SqT K H p ys)∧Q (.int ys.length) H
theorem bL (hK:X.K=K):CallR X (.builtin "len") (oY K):=by subst hK;exact qN
noncomputable def aCO (K:PySem.W.Frag):List V→Hp→VK→Prop:=fun vs H Q=>∃ (a:Addr) (bs:List Bool),vs=[.ref a]∧Sq K H a (bs.map V.bl)∧Q (.bl (bs.all id)) H
theorem mI (hK:X.K=K)(hc:X.calm=true):CallR X (.builtin "all") (aCO K):=by subst hK;exact aAE hc
noncomputable def aEB (K:PySem.W.Frag):List V→Hp→VK→Prop:=fun vs H Q=>∃ (a:Addr) (ns:List Int),vs=[.ref a]∧Sq K H a (ns.map V.int)∧Q (.int ns.sum) H
theorem qV (hK:X.K=K)(hc:X.calm=true):CallR X (.builtin "sum") (aEB K):=by subst hK;exact aAc hc
noncomputable def aFn (K:PySem.W.Frag):List V→Hp→VK→Prop:=fun vs H Q=>∃ (a:Addr) (ns:List Int),vs=[.ref a]∧Sq K H a (ns.map V.int)∧ns≠[]∧∀ m:Int,m∈ns→(∀ k∈ns,m≤k)→Q (.int m) H
theorem yB (hK:X.K=K)(hc:X.calm=true):CallR X (.builtin "min") (aFn K):=by subst hK;exact aAC hc
noncomputable def iH (K:PySem.W.Frag):List V→Hp→VK→Prop:=fun xs H Q=>∃ p ys,xs=[.ref p]∧((SqL K H p ys∧∀ l,H l=none→Q (.ref l) (upd H l (.tup ys)))∨(SqT K H p ys∧Q (.ref p) H))
theorem fG (hK:X.K=K):CallR X (.type "tuple") (iH K):=by subst hK;exact oP
noncomputable def aAd (K:PySem.W.Frag):List V→Hp→VK→Prop:=fun vs H Q=>(∃ p ys,vs=[.ref p]∧(SqL K H p ys∨SqT K H p ys)∧∀ l,H l=none→Q (.ref l) (upd H l (.lst ys))) ∨
  ∃ (a:Addr) (lo hi:Int),vs=[.ref a]∧H a=some (.rng lo hi)∧(-(2 ^ 62)≤lo∧lo<2 ^ 62∧-(2 ^ 62)≤hi∧hi<2 ^ 62∧hi - lo≤1000000)∧∀ p,H p=none→Q (.ref p) (upd H p (.lst ((oN lo hi).map V.int)))
theorem kC (hK:X.K=K)(hc:X.calm=true):CallR X (.type "list") (aAd K):=by subst hK;exact pN hc
theorem gA {tg l:Expr}{tl:TE}(hK:X.K=K)(hl:PE X l tl):PI X tg l (uQ K tl):=by subst hK;exact aDY hl
theorem lN {es:List Expr}{k:Nat}{t:TGs}{n:Nat}{pos:Pos}(hK:X.K=K)(hc:X.calm=true)(h:PGs X es t)(hn:(assignEach es X.env).length=n:=by rfl)(hst:(assignEach es X.env).findIdx? (·.1)=none:=by rfl):PG X (.Tuple es k pos) (aBr K n t):=by
 subst hK;exact aEb hc h hn hst
end
end L2
namespace L2
open PySem PySem.Spec PyProof.Rows
noncomputable abbrev yLt:R2:=rI0 fun i j => .bl (decide (i<j))
noncomputable abbrev yLe:R2:=rI0 fun i j => .bl (decide (i≤j))
noncomputable abbrev yGt:R2:=rI0 fun i j => .bl (decide (j<i))
noncomputable abbrev yGe:R2:=rI0 fun i j => .bl (decide (j≤i))
noncomputable abbrev aFD:R2:=rI0 fun i j => .int (i - j)
noncomputable abbrev aFk:R2:=rI aFg fun i j => .int (i / j)
noncomputable abbrev vS:R2:=rI (fun _ j=>0<j) fun i j => .int (i % j)
noncomputable abbrev aFz:R2:=rI aFi fun i j => .int (i ^ j.toNat)
noncomputable abbrev aCy:V→Hp→VK→Prop:=rU fun i => .int (-i)
noncomputable abbrev cQ (K:PySem.W.Frag):R2:=fun x y H Q=>aEr K x y H Q∨aEw K x y H Q
noncomputable def aEV:List V→Hp→VK→Prop:=fun vs H Q=>(∃ n:Int,vs=[.int n]∧∀ p,H p=none→Q (.ref p) (upd H p (.rng 0 n)))∨∃ m n:Int,vs=[.int m, .int n]∧∀ p,H p=none→Q (.ref p) (upd H p (.rng m n))
theorem qY {X:Cx}:CallR X (.type "range") aEV:=zS
end L2
namespace L2
open PySem
noncomputable def mG (T:List (List Int)):Dt := .tup (T.map fun r => .tup (r.map .int))
structure Quad (T:List (List Int))(n:Nat):Prop where
 len:T.length=n
 row:∀ r∈T,r.length=n
noncomputable def at2 (T:List (List Int)) (i j:Nat):Int:=(T.getD i []).getD j 0
section
variable {K:PySem.W.Frag}{H:Hp}{T:List (List Int)}{n:Nat}
theorem ShL.rows:∀ {T:List (List Int)} {rs:List V},ShL K H (T.map fun r=>Dt.tup (r.map Dt.int)) rs→rs.length=T.length∧∀ (i:Nat) (row:List Int),T[i]?=some row→∃ b,rs[i]?=some (.ref b)∧SqT K H b (row.map V.int)
 | [],rs,h=>by
  have h:rs=[]:=h
  subst h
  exact ⟨rfl,fun i row e=>by simp at e⟩
 | r :: T,rs,⟨x,rr,h1,⟨b,xs,h2,h3,h4⟩,h5⟩=>by
  obtain ⟨e,g⟩:=ShL.rows h5
  subst h1
  refine ⟨by rw [List.length_cons,List.length_cons,e],fun i row er=>?_⟩
  cases i with
  | zero=>
   have:r=row:=by simpa using er
   subst this
   exact ⟨b,by rw [h2];rfl,by rw [← ShL.of_ints h4];exact h3⟩
  | succ i=>exact g i row (by simpa using er)
theorem Sh.tab {v:V}(h:Sh K H (mG T) v):∃ a rs,v = .ref a∧SqT K H a rs∧rs.length=T.length∧∀ (i:Nat) (row:List Int),T[i]?=some row→∃ b,rs[i]?=some (.ref b)∧SqT K H b (row.map V.int):=by
 obtain ⟨a,rs,e,hq,hl⟩:=h
 obtain ⟨e2,g⟩:=ShL.rows hl
 exact ⟨a,rs,e,hq,e2,g⟩
theorem ShL.of_rows:∀ {T:List (List Int)} {rs:List V},rs.length=T.length→(∀ (i:Nat) (row:List Int),T[i]?=some row→∃ b,rs[i]?=some (.ref b)∧SqT K H b (row.map V.int))→ShL K H (T.map fun r=>Dt.tup (r.map Dt.int)) rs
 | [],rs,h,_=>List.length_eq_zero_iff.mp h
 | r :: T,[],h,_=>by simp at h
 | r :: T,x :: rs,h,g=>by
  obtain ⟨b,e,hq⟩:=g 0 r rfl
  have e:x = .ref b:=by simpa using e
  exact ⟨x,rs,rfl,⟨b,_,e,hq,ShL.ints r⟩,ShL.of_rows (by simpa using h) fun i row er=>by
   obtain ⟨c,e2,q2⟩:=g (i+1) row (by simpa using er)
   exact ⟨c,by simpa using e2,q2⟩⟩
theorem Quad.get (q:Quad T n){i:Nat}(h:i<n):∃ row,T[i]?=some row∧row.length=n∧T.getD i []=row:=by
 have hi:i<T.length:=by rw [q.len];exact h
 refine ⟨T[i],List.getElem?_eq_getElem hi,q.row _ (List.getElem_mem hi),?_⟩
 rw [List.getD_eq_getElem?_getD,List.getElem?_eq_getElem hi];rfl
theorem jT {xs:List Int}{j:Nat}(h:j<xs.length):xs[j]?=some (xs.getD j 0):=by
 rw [List.getD_eq_getElem?_getD,List.getElem?_eq_getElem h];rfl
theorem ixT {p:Addr}{xs:List V}{j:Nat}{v:V}{Q:VK}(h:SqT K H p xs)(hj:xs[j]?=some v)(q:Q v H):cQ K (.ref p) (.int (j:Int)) H Q := .inr ⟨p,xs,j,v,rfl,rfl,h,xL hj,q⟩
theorem ixL {p:Addr}{xs:List V}{j:Nat}{v:V}{Q:VK}(h:SqL K H p xs)(hj:xs[j]?=some v)(q:Q v H):cQ K (.ref p) (.int (j:Int)) H Q := .inl ⟨p,xs,j,v,rfl,rfl,h,xL hj,q⟩
theorem rX {v:V}{i:Nat}{Q:VK}(hS:Sh K H (mG T) v)(hq:Quad T n)(hi:i<n)(q:∀ b,SqT K H b ((T.getD i []).map V.int)→Q (.ref b) H):cQ K v (.int (i:Int)) H Q:=by
 obtain ⟨a,rs,rfl,ha,hl,g⟩:=hS.tab
 obtain ⟨row,e1,e2,e3⟩:=hq.get hi
 obtain ⟨b,hb,hs⟩:=g i row e1
 exact ixT ha hb (q b (by rw [e3];exact hs))
theorem aAZ {σ:St}{t si sj:Nat}{v:V}{i j:Nat}{Q:VK}(ht:σ[t]?=some (some v))(hi:σ[si]?=some (some (.int (i:Int))))(hj:σ[sj]?=some (some (.int (j:Int))))(hS:Sh K H (mG T) v)(hq:Quad T n)(li:i<n)(lj:j<n)
  (q:Q (.int (at2 T i j)) H):tOp (cQ K) (tOp (cQ K) (aF t) (aF si)) (aF sj) σ H Q:=by
 refine ⟨_,ht,_,hi,rX hS hq li fun b hb=>⟨_,hj,ixT hb ?_ q⟩⟩
 obtain ⟨row,e1,e2,e3⟩:=hq.get li
 rw [List.getElem?_map,jT (by rw [e3];omega)]
 rfl
end
theorem cE {acc:Addr}{H H2:Hp}{o:HO}(hacc:H acc=none)(sx:SameX acc (upd H acc o) H2):Same H H2:=fun b u e=>sx b u (aM e hacc) (by rw [aP (aM e hacc)];exact e)
theorem Emits.cast {vars:List Nat}{tb:TS}{acc:Addr}{σ:St}{H:Hp}{L L':List V}(h:Emits vars tb acc σ H L)(e:L=L'):Emits vars tb acc σ H L':=e ▸ h
theorem fE (vars:List Nat)(L:List V){g:TG}{J:It}{tb:TS}{acc:Addr}{σ:St}{H:Hp}{D:iE}(ha:H acc=none)(hz:L.length≤1000000)(h:Emits vars (fK J g tb) acc σ (upd H acc (.lst [])) L)
  (q:∀ σ' H',Same H H'→H' acc=some (.lst L)→D.nx σ' H'):fK J g tb D σ (upd H acc (.lst [])):=
 h _ [] aD (by simpa using hz) fun σ' H' _ _ sx h2=>q σ' H' (cE ha sx) (by simpa using h2)
theorem cF {α:Type}(f:Nat→List α)(c:Nat):∀ n,(∀ i,i<n→(f i).length≤c)→((List.range n).flatMap f).length≤n*c
 | 0,_=>by simp
 | n+1,h=>by
  rw [aL,List.length_append,Nat.add_mul,Nat.one_mul]
  have:=cF f c n fun i hi=>h i (by omega)
  have:=h n (by omega)
  omega
theorem rC {α β:Type}(g:α→β)(f:Nat→List α)(l:List Nat):(l.flatMap f).map g=l.flatMap fun i=>(f i).map g:=by
 induction l with
 | nil=>rfl
 | cons x r ih=>rw [List.flatMap_cons,List.map_append,ih,List.flatMap_cons]
end L2
namespace L2
open PySem
section
variable {vars:List Nat}{tb:TS}{acc a:Addr}{σ:St}{H:Hp}{j:Nat}{D:iE}{K:PySem.W.Frag}
theorem yP {lo:Int}{n:Nat}(R:Nat→List V→Hp→Prop)(hj:j∈vars)(hjl:j<σ.length)(h0:R 0 [] (upd H acc (.lst [])))(ha:H acc=none)
  (h:∀ i σ' H' L (D:iE),i<n→σ'.length=σ.length→Agree vars σ σ'→σ'[j]?=some (some (.int (lo+(i:Int))))→Same H H'→H' acc=some (.lst L)→R i L H' →
   (∀ σ'' H'' L',σ''.length=σ.length→Agree vars σ σ''→Same H H''→H'' acc=some (.lst L')→R (i+1) L' H''→D.nx σ'' H'')→tb D σ' H')
  (q:∀ σ' H' L,Same H H'→H' acc=some (.lst L)→R n L H'→D.nx σ' H'):fK (Itr lo n) (aN j) tb D σ (upd H acc (.lst [])):=by
 refine dY (lo:=lo) (n:=n) (g:=aN j) (D:=D) (fun i σ' H'=>i≤n∧σ'.length=σ.length∧Agree vars σ σ'∧Same H H'∧∃ L,H' acc=some (.lst L)∧R i L H') ⟨Nat.zero_le _,rfl,Agree.refl _ _,aH ha _,[],aD,h0⟩ (fun i σ1 H1 hi ⟨_,hl1,ag1,sx1,L,h1,r1⟩=>?_) fun σ1 H1 ⟨_,_,_,sm,L,h1,r1⟩=>q σ1 H1 L sm h1 r1
 exact h i (σ1.set j (some (.int (lo+(i:Int))))) H1 L _ hi (by rw [List.length_set];exact hl1) (ag1.trans (Agree.set hj _)) (kM (by omega)) sx1 h1 r1 fun σ2 H2 L' hl2 ag2 sm2 h2 r2=>⟨hi,hl2,ag2,sm2,L',h2,r2⟩
theorem pX {xs:List V}(R:Nat→List V→Hp→Prop)(hj:j∈vars)(hjl:j<σ.length)(h0:R 0 [] (upd H acc (.lst [])))(ha:H acc=none)(hs:∀ i L H',Same H H'→R i L H'→SqL K H' a xs)
  (h:∀ i x σ' H' L (D:iE),xs[i]?=some x→σ'.length=σ.length→Agree vars σ σ'→σ'[j]?=some (some x)→Same H H'→H' acc=some (.lst L)→R i L H' →
   (∀ σ'' H'' L',σ''.length=σ.length→Agree vars σ σ''→Same H H''→H'' acc=some (.lst L')→R (i+1) L' H''→D.nx σ'' H'')→tb D σ' H')
  (q:∀ σ' H' L,Same H H'→H' acc=some (.lst L)→R xs.length L H'→D.nx σ' H'):fK (Itl K a) (aN j) tb D σ (upd H acc (.lst [])):=by
 refine oW (K:=K) (a:=a) (xs:=xs) (g:=aN j) (D:=D) (fun i σ' H'=>i≤xs.length∧σ'.length=σ.length∧Agree vars σ σ'∧Same H H'∧∃ L,H' acc=some (.lst L)∧R i L H') ⟨Nat.zero_le _,rfl,Agree.refl _ _,aH ha _,[],aD,h0⟩ (fun i σ1 H1 _ ⟨_,_,_,sm,L,_,r1⟩=>hs i L H1 sm r1) (fun i x σ1 H1 hx ⟨_,hl1,ag1,sx1,L,h1,r1⟩=>?_) fun σ1 H1 ⟨_,_,_,sm,L,h1,r1⟩=>q σ1 H1 L sm h1 r1
 have hi:i<xs.length:=(List.getElem?_eq_some_iff.mp hx).1
 exact h i x (σ1.set j (some x)) H1 L _ hx (by rw [List.length_set];exact hl1) (ag1.trans (Agree.set hj _)) (kM (by omega)) sx1 h1 r1 fun σ2 H2 L' hl2 ag2 sm2 h2 r2=>⟨hi,hl2,ag2,sm2,L',h2,r2⟩
end
structure Mat (H:Hp)(F:Addr)(ls:List Addr)(M:List (List Int)):Prop where
 top:H F=some (.lst (ls.map V.ref))
 len:ls.length=M.length
 row:∀ (i:Nat) (l:Addr) (r:List Int),ls[i]?=some l→M[i]?=some r→H l=some (.lst (r.map V.int))
 nd:ls.Nodup
 out:F∉ls
theorem Mat.same {H H':Hp}{F:Addr}{ls:List Addr}{M:List (List Int)}(m:Mat H F ls M)(e:Same H H'):Mat H' F ls M:=⟨e _ _ m.top,m.len,fun i l r a b=>e _ _ (m.row i l r a b),m.nd,m.out⟩
theorem Mat.keep {H H':Hp}{F:Addr}{ls:List Addr}{M:List (List Int)}(m:Mat H F ls M)(e:∀ b o,(b=F∨b∈ls)→H b=some o→H' b=some o):Mat H' F ls M:=
 ⟨e _ _ (.inl rfl) m.top,m.len,fun i l r a b=>e _ _ (.inr (List.mem_of_getElem? a)) (m.row i l r a b),m.nd,m.out⟩
noncomputable def xO (M:List (List Int)) (i j:Nat) (v:Int):List (List Int):=M.set i ((M.getD i []).set j v)
theorem zC {M:List (List Int)}{n i j:Nat}{v:Int}(q:Quad M n)(hi:i<n):Quad (xO M i j v) n:=by
 refine ⟨by unfold xO;rw [List.length_set];exact q.len,fun r hr=>?_⟩
 unfold xO at hr
 rcases List.mem_or_eq_of_mem_set hr with h | h
 ·exact q.row r h
 ·obtain ⟨row,e1,e2,e3⟩:=q.get hi
  rw [h,List.length_set,e3];exact e2
theorem yC {M:List (List Int)}{n i j:Nat}{v:Int}(q:Quad M n)(hi:i<n)(hj:j<n)(a b:Nat):at2 (xO M i j v) a b=if a=i∧b=j then v else at2 M a b:=by
 obtain ⟨row,e1,e2,e3⟩:=q.get hi
 unfold at2 xO
 by_cases ha:a=i
 ·subst ha
  have:(M.set a ((M.getD a []).set j v)).getD a []=(M.getD a []).set j v:=by
   rw [List.getD_eq_getElem?_getD,List.getElem?_set_self (by rw [q.len];exact hi)];rfl
  rw [this,e3]
  by_cases hb:b=j
  ·subst hb
   rw [if_pos ⟨rfl,rfl⟩,List.getD_eq_getElem?_getD,List.getElem?_set_self (by omega)];rfl
  ·rw [if_neg (fun z=>hb z.2),List.getD_eq_getElem?_getD,List.getElem?_set_ne (Ne.symm hb),← List.getD_eq_getElem?_getD]
 ·have:(M.set i ((M.getD i []).set j v)).getD a []=M.getD a []:=by
   rw [List.getD_eq_getElem?_getD,List.getElem?_set_ne (Ne.symm ha),← List.getD_eq_getElem?_getD]
  rw [this,if_neg (fun z=>ha z.1)]
theorem Mat.at {K:PySem.W.Frag}{H:Hp}{F:Addr}{ls:List Addr}{M:List (List Int)}{n i:Nat}(m:Mat H F ls M)(q:Quad M n)(hi:i<n):∃ l,ls[i]?=some l∧(ls.map V.ref)[i]?=some (.ref l)∧H l=some (.lst ((M.getD i []).map V.int)):=by
 obtain ⟨row,e1,e2,e3⟩:=q.get hi
 have hl:i<ls.length:=by rw [m.len,q.len];exact hi
 refine ⟨ls[i],List.getElem?_eq_getElem hl,by rw [List.getElem?_map,List.getElem?_eq_getElem hl];rfl,?_⟩
 rw [e3]
 exact m.row i _ row (List.getElem?_eq_getElem hl) e1
theorem Mat.put {H:Hp}{F:Addr}{ls:List Addr}{M:List (List Int)}{n i j:Nat}{v:Int}{l:Addr}(m:Mat H F ls M)(q:Quad M n)(hi:i<n)(hl:ls[i]?=some l):Mat (upd H l (.lst (((M.getD i []).set j v).map V.int))) F ls (xO M i j v):=by
 have hm:l∈ls:=List.mem_of_getElem? hl
 have hF:F≠l:=fun e=>m.out (e ▸ hm)
 refine ⟨by rw [aP hF];exact m.top,by unfold xO;rw [List.length_set];exact m.len,fun a b r h1 h2=>?_,m.nd,m.out⟩
 by_cases ha:a=i
 ·subst ha
  rw [hl] at h1
  cases h1
  rw [aD]
  unfold xO at h2
  rw [List.getElem?_set_self (by rw [q.len];exact hi)] at h2
  cases h2
  rfl
 ·have hne:b≠l:=by
   intro e
   subst e
   obtain ⟨i1,z1⟩:=List.getElem?_eq_some_iff.mp h1
   obtain ⟨i2,z2⟩:=List.getElem?_eq_some_iff.mp hl
   exact ha ((List.getElem_inj m.nd).mp (z1.trans z2.symm))
  rw [aP hne]
  unfold xO at h2
  rw [List.getElem?_set_ne (Ne.symm ha)] at h2
  exact m.row a b r h1 h2
theorem aDg {K:PySem.W.Frag}{H:Hp}{F:Addr}{ls:List Addr}{M:List (List Int)}{n i j t si sj:Nat}{σ:St}{Q:VK}(m:Mat H F ls M)(q:Quad M n)(ht:σ[t]?=some (some (.ref F)))(hi:σ[si]?=some (some (.int (i:Int))))(hj:σ[sj]?=some (some (.int (j:Int))))(li:i<n)(lj:j<n)
  (h:Q (.int (at2 M i j)) H):tOp (cQ K) (tOp (cQ K) (aF t) (aF si)) (aF sj) σ H Q:=by
 obtain ⟨l,h1,h2,h3⟩:=m.at (K:=K) q li
 refine ⟨_,ht,_,hi,ixL (.of m.top) h2 ⟨_,hj,ixL (.of h3) ?_ h⟩⟩
 obtain ⟨row,e1,e2,e3⟩:=q.get li
 rw [List.getElem?_map,jT (by rw [e3];omega)]
 rfl
theorem aCx {K:PySem.W.Frag}{H:Hp}{F:Addr}{ls:List Addr}{M:List (List Int)}{n i j t si sj:Nat}{σ:St}{v:Int}{N:St→Hp→Prop}(m:Mat H F ls M)(q:Quad M n)(ht:σ[t]?=some (some (.ref F)))(hi:σ[si]?=some (some (.int (i:Int))))(hj:σ[sj]?=some (some (.int (j:Int))))(li:i<n)(lj:j<n)
  (h:∀ l H',l∈ls→H'=upd H l (.lst (((M.getD i []).set j v).map V.int))→Mat H' F ls (xO M i j v)→N σ H'):vN (tOp (cQ K) (aF t) (aF si)) (aF sj) jY (.int v) σ H N:=by
 obtain ⟨l,h1,h2,h3⟩:=m.at (K:=K) q li
 obtain ⟨row,e1,e2,e3⟩:=q.get li
 refine ⟨_,ht,_,hi,ixL (.of m.top) h2 ⟨_,hj,l,_,(j:Int),j,rfl,rfl,h3,?_,?_⟩⟩
 rotate_left
 ·rw [← List.map_set]
  exact h l _ (List.mem_of_getElem? h1) rfl (m.put q li h1)
 rw [List.length_map,e3,e2]
 unfold ixN
 rw [if_pos (by omega),if_pos (by omega),Int.toNat_natCast]
end L2
namespace L2
open PySem
theorem wQ {K:PySem.W.Frag}{σ:St}{H:Hp}{t n:Nat}{F:Addr}{ls:List Addr}{M:List (List Int)}{Q:VK}(ht:σ[t]?=some (some (.ref F)))(m:Mat H F ls M)(q:Quad M n)(hn:n≤100)(h:∀ p H',Same H H'→Sh K H' (mG M) (.ref p)→Q (.ref p) H') :
  tCB (iH K) (aB (eV [none] (uQ K (aF t)) (aN 0) [] fun acc=>dO (tCB (iH K) (aB (aF 0) aQ)) acc) aQ) σ H Q:=by
 refine ⟨_,ht,F,rfl, .inl ⟨⟨_, .of m.top⟩,fun acc hacc=>?_⟩⟩
 have hlen:(ls.map V.ref).length=n:=by rw [List.length_map,m.len,q.len]
 refine pX (vars:=[0]) (K:=K) (a:=F) (xs:=ls.map V.ref) (fun i L H'=>L.length=i∧∀ (j:Nat) (row:List Int),j<i→M[j]?=some row→∃ b,L[j]?=some (.ref b)∧H' b=some (.tup (row.map V.int))) (by decide) (by show 0<1;decide) ⟨rfl,fun j row hj=>absurd hj (Nat.not_lt_zero _)⟩ hacc (fun i L H' sm _ => .of (sm _ _ m.top)) (fun i x σ1 H1 L D hx l1 ag1 s1 sm1 ha1 ⟨r1,r2⟩ hD=>?_) fun σ1 H1 L sm1 ha1 ⟨r1,r2⟩=>?_
 ·have hi:i<n:=by rw [← hlen];exact (List.getElem?_eq_some_iff.mp hx).1
  have hil:i<ls.length:=by rw [m.len,q.len];exact hi
  obtain ⟨row,e1,e2,e3⟩:=q.get hi
  have ex:x = .ref ls[i]:=by
   rw [List.getElem?_map,List.getElem?_eq_getElem hil] at hx
   simpa using hx.symm
  subst ex
  have hrow:=m.row i _ row (List.getElem?_eq_getElem hil) e1
  refine ⟨_,s1,ls[i],row.map V.int,rfl, .inl ⟨.of (sm1 _ _ hrow),fun p hp=>?_⟩⟩
  have hpa:p≠acc:=fun e=>by rw [e,ha1] at hp;cases hp
  refine ⟨L,by rw [aP (Ne.symm hpa)];exact ha1,Nat.lt_of_le_of_lt (show L.length≤100 by omega) (by decide),?_⟩
  refine hD σ1 _ (L++[.ref p]) l1 ag1 (fun b o e=>?_) aD ⟨by rw [List.length_append,r1];rfl,fun j row' hj e=>?_⟩
  ·have hb:b≠acc:=aM e hacc
   rw [aP hb,aP (aM (sm1 _ _ e) hp)]
   exact sm1 _ _ e
  ·by_cases hji:j<i
   ·obtain ⟨b,g1,g2⟩:=r2 j row' hji e
    refine ⟨b,by rw [List.getElem?_append_left (by omega)];exact g1,?_⟩
    have hb:b≠acc:=ne_of g2 ha1 (fun z=>nomatch z)
    rw [aP hb,aP (aM g2 hp)]
    exact g2
   ·have:j=i:=by omega
    subst this
    rw [e1] at e
    cases e
    refine ⟨p,by rw [List.getElem?_append_right (by omega),r1];simp,?_⟩
    rw [aP hpa]
    exact aD
 ·refine ⟨acc,L,rfl, .inl ⟨.of ha1,fun p hp=>?_⟩⟩
  have sm2:Same H (upd H1 p (.tup L)):=sm1.trans (aH hp _)
  refine h p _ sm2 ⟨p,L,rfl, .of aD,ShL.of_rows (by rw [r1,hlen,q.len]) fun i row e=>?_⟩
  have hi:i<n:=by rw [← q.len];exact (List.getElem?_eq_some_iff.mp e).1
  obtain ⟨b,g1,g2⟩:=r2 i row (by omega) e
  exact ⟨b,g1, .of (by rw [aP (aM g2 hp)];exact g2)⟩
end L2
namespace L2
open PySem
section
variable {K:PySem.W.Frag}{H:Hp}
end
theorem zY {xs:List V}{t:Nat}(h:t≤xs.length):kA xs (some (t:Int)) none=xs.drop t:=by
 unfold kA HT.sIx
 simp only [Int.toNat_natCast]
 rw [if_neg (by omega),Nat.min_eq_left h,List.take_of_length_le (by rw [List.length_drop];omega)]
theorem zX (ns:List Int)(lo hi:Option Int):∃ ms:List Int,kA (ns.map V.int) lo hi=ms.map V.int∧ms.length≤ns.length:=by
 refine ⟨(ns.drop (HT.sIx ns.length 0 lo)).take (HT.sIx ns.length ns.length hi - HT.sIx ns.length 0 lo),?_,?_⟩
 ·unfold kA
  rw [List.length_map,List.map_take,List.map_drop]
 ·rw [List.length_take,List.length_drop];omega
end L2
namespace L2
open PySem
end L2
namespace L2
open PySem PySem.Spec PyProof.Rows
section
variable {X:Cx}
theorem jQ {prog:Program}{w:World}{A:Around}{E:Value→Shared→Prop}{s:Shared}{t sl:Addr}{items:Array Value}{vl vu:Value}{lo hi:Option Int}{Q:Value→Shared→Prop}(ht:IsTup s.heap t items)(hs:s.heap.IsSliceOf sl vl vu .none)(pl:IsPart vl lo)(pu:IsPart vu hi)
  (hw:HT.sIx items.size 0 lo=0∧HT.sIx items.size items.size hi=items.size) (h:Q (.ref t) s):wpAny (model prog w) A (getItem (.ref t) (.ref sl)) Q E s:=by
 obtain ⟨os,hos,hcs,hds⟩:=id hs
 have hTs:s.TypeIs (.ref sl) "slice":=⟨os,hos,hcs⟩
 unfold getItem
 try with_reducible refine wpAny_holding ?_
 first | refine wpAny_bind (wpAny_pure ?_) | skip
 refine wpAny_bind (wpAny_sequenceKey ht.typeIs (by decide) ?_)
 refine wpAny_bind (wpAny_callSpecial?_slot (name:=Str.ofString "__getitem__") ht.typeIs PyProof.Rows.slot_tuple_getitem
  (wpAny_call_entry PyProof.Rows.slot_tuple_getitem ht.typeIs entry_tuple_getitem ?_ (args_tuple_getitem _ _)))
 show wpAny _ _ (Builtin.Tuple.tupleItemsOf (.ref t) >>= _) _ _ s
 refine wpAny_bind (tupleItemsOf_ ht ?_)
 refine wpAny_bind (wpAny_typeOf hTs ?_)
 rw [if_pos (by decide)]
 refine wpAny_bind (HT.sliceApplied_gen hs pl pu ?_)
 rw [hw.1,hw.2]
 have hyes:((((0:Nat):Int) == 0 && (1:Int) == 1 && (items.size - 0) == items.size)=true):=by simp
 show wpAny _ _ (if (((0:Nat):Int) == 0 && (1:Int) == 1 && (items.size - 0) == items.size)=true then _ else _) _ _ s
 rw [if_pos hyes]
 unfold Builtin.Tuple.tupleIsExact
 refine wpAny_bind (wpAny_bind (wpAny_typeOf ht.typeIs (wpAny_pure ?_)))
 rw [if_pos (show (Value.type "tuple" == Value.type "tuple")=true by rfl)]
 exact wpAny_bind (wpAny_rule (wpAny_pure ⟨_,rfl,wpAny_pure h⟩))
noncomputable def aFx (K:PySem.W.Frag):V→Option Int→Option Int→Hp→VK→Prop:=fun x lo hi H Q=>∃ a xs,x = .ref a∧SqT K H a xs∧∀ p H',Same H H'→SqT K H' p (kA xs lo hi)→Q (.ref p) H'
theorem aBZ:SlR X (aFx X.K):=by
 intro pins s σ H x v vl vu lo hi sl Q I rx hs pl pu h
 obtain ⟨a,xs,rfl,hx,q⟩:=h
 by_cases hw:HT.sIx xs.length 0 lo=0∧HT.sIx xs.length xs.length hi=xs.length
 ·obtain rfl:v=Value.ref a:=rx
  obtain ⟨its,rv,p,hz⟩:=I.tuple hx
  have hl:=rv.length
  have ec:kA xs lo hi=xs:=by unfold kA;rw [hw.1,hw.2,List.drop_zero,Nat.sub_zero,List.take_length]
  refine ⟨"tuple",_,PyProof.Rows.slot_tuple_getitem.lookup,p.typeIs,?_⟩
  refine jQ p hs pl pu (by simp only [List.size_toArray,← hl];exact hw) ?_
  exact ⟨.ref a,H,I,rfl,q a H (Same.refl H) (by rw [ec];exact hx)⟩
 ·exact aCT (X:=X) pins s σ H (.ref a) v vl vu lo hi sl Q I rx hs pl pu ⟨a,xs,rfl,hx,hw,fun p hp=>q p _ (aH hp _) (.of aD)⟩
noncomputable abbrev mZ (K:PySem.W.Frag):V→Option Int→Option Int→Hp→VK→Prop:=fun x lo hi H Q=>aFv K x lo hi H Q∨aFx K x lo hi H Q
theorem iB {K:PySem.W.Frag}(hK:X.K=K):SlR X (mZ K):=by subst hK;exact aBK.or aBZ
end
section
variable {prog:Program}{w:World}{A:Around}{E:Value→Shared→Prop}{s:Shared}
theorem vD {l:Addr}{ob:Obj}{n:Nat}{T:String}{us:List Value}{Q:List Value→Shared→Prop}(e0:s.heap.get? l=some ob)(ec:ob.cls = .type T)(eT:T="list"∨T="tuple")(ed:ob.data = .seq us.toArray n)
  (q:Q us { s with heap:=(s.heap.push (seqObj "list" #[] 0)).update s.heap.objs.size (Obj.mapSeq (· ++ us.toArray)) }) (z:us.length≤sizeLine):wpAny (model prog w) A (collect (.ref l)) Q E s:=by
 unfold collect
 refine wpAny_bind (wpAny_runValue (codeAny_builtin entry_proto_collect' ?g1))
 case g1=>
  show wpAny _ _ (do again (.builtin "list.__iadd__" ⟨[← newList [],Value.ref l],[]⟩)) _ _ s
  refine wpAny_bind (wpAny_newList (wpAny_pure ⟨Code.quiet_builtin _ (by decide +kernel),codeAny_builtin entry_list_iadd' ?g2⟩))
  case g2=>
   have e1:(s.heap.push (seqObj "list" #[] 0)).get? l=some ob:=Heap.get?_push_of_some _ e0
   show wpAny _ _ (Builtin.List.listExtendWith (Value.ref s.heap.objs.size) (Value.ref l) (Value.ref s.heap.objs.size)) _ _ { s with heap:=s.heap.push (seqObj "list" #[] 0) }
   unfold Builtin.List.listExtendWith
   refine wpAny_bind (wpAny_typeOf (T:=T) ⟨ob,e1,ec⟩ ?g3)
   case g3=>
    have ht:((Value.type T == Value.type "list") || (Value.type T == Value.type "tuple"))=true:=by rcases eT with rfl | rfl <;> rfl
    rw [if_pos (by first | exact ht | (rcases eT with rfl | rfl <;> simp))]
    refine wpAny_bind (listItems_at e1 ed (wpAny_bind (listItems_at (xs:=#[]) (n:=0) (Heap.get?_push_size _ rfl) rfl ?g4)))
    case g4=>
     rw [if_neg (by simp)]
     refine wpAny_bind (listUpdate_at (xs:=#[]) (n:=0) (Heap.get?_push_size _ rfl) rfl ?g5 (Nat.zero_le _) (by show (#[]++us.toArray).size≤sizeLine+1;simp only [Array.size_append,List.size_toArray,List.length_nil];omega))
     case g5=>
      refine wpAny_pure ?g6
      case g6=>
       show wpAny (model prog w) A (load s.heap.objs.size >>= fun o=>match o.data with | .seq xs _=>pure xs.toList | _=>unsupported "internal:collect") Q E { s with heap:=(s.heap.push (seqObj "list" #[] 0)).update s.heap.objs.size (Obj.mapSeq (· ++ us.toArray)) }
       refine wpAny_bind (wpAny_load (get?_update_seq (Heap.get?_push_size _ rfl) _) ?g7)
       case g7=>
        show wpAny _ _ (pure ((#[]:Array Value)++us.toArray).toList) Q E _
        rw [show ((#[]:Array Value)++us.toArray).toList=us by simp]
        exact wpAny_pure q
theorem wR {l:Addr}{ob:Obj}{n:Nat}{T:String}{us:List Value}{ks:List Int}{Q:Value→Shared→Prop}(e0:s.heap.get? l=some ob)(ec:ob.cls = .type T)(eT:T="list"∨T="tuple")(ed:ob.data = .seq us.toArray n)(hI:IntsAre us ks)(h64:us.length<64)
  (q:∀ (out:Array Value) (ns':List Int),IntsAre out.toList ns'→ns'.Perm ks→ns'.Pairwise (·≤·)→Q (.ref (s.heap.objs.size+1)) { s with heap:=sortedAll s.heap us out }):wpAny (model prog w) A (call (.builtin "sorted") [.ref l]) Q E s:=by
 refine Calls.call_function_entry kind_sorted plain_sorted entry_sorted (args_sorted1 _) ?g1
 case g1=>
  unfold Builtin.«sorted»
  refine wpAny_bind (m:=checkCount "sorted" 1 1 _) (wpAny_pure (wpAny_bind (vD e0 ec eT ed ?g2 (Nat.le_trans (Nat.le_of_lt h64) (by decide)))))
  case g2=>
   refine wpAny_bind (wpAny_newList ?g3)
   case g3=>
    have z1:((s.heap.push (seqObj "list" #[] 0)).update s.heap.objs.size (Obj.mapSeq (· ++ us.toArray))).objs.size=s.heap.objs.size+1:=by rw [Heap.size_update,size_push']
    have e2:(((s.heap.push (seqObj "list" #[] 0)).update s.heap.objs.size (Obj.mapSeq (· ++ us.toArray))).push (seqObj "list" us.toArray 0)).get? (s.heap.objs.size+1)=some (seqObj "list" us.toArray 0):=by rw [← z1];exact Heap.get?_push_size _ rfl
    show wpAny _ _ _ _ _ { s with heap:=((s.heap.push (seqObj "list" #[] 0)).update s.heap.objs.size (Obj.mapSeq (· ++ us.toArray))).push (seqObj "list" us.toArray 0) }
    rw [z1]
    refine wpAny_bind (wpAny_holding (wpAny_call_entry slot_list_sort ⟨_,e2,rfl⟩ entry_list_sort (list_sort_tree e2 hI h64 fun out ns' a1 a2 a3=>⟨_,rfl,wpAny_pure ⟨_,rfl,q out ns' a1 a2 a3⟩⟩) (args_list_sort _)))
end
end L2
namespace L2
open PySem PySem.Spec PyProof.Rows
theorem kI:∀ {ns:List Int} {us:List Value},IntsAre us ns→Vals (ns.map V.int) us
 | [],_,h=>by cases h;exact .nil
 | n :: ns,_,h=>by
  cases h with
  | cons _ t h=>exact .cons ⟨t,rfl⟩ (kI h)
theorem IntsAre.len:∀ {ns:List Int} {us:List Value},IntsAre us ns→us.length=ns.length
 | [],_,h=>by cases h;rfl
 | n :: ns,_,h=>by
  cases h with
  | cons _ t h=>rw [List.length_cons,List.length_cons,IntsAre.len h]
noncomputable def lP (K:PySem.W.Frag):List V→Hp→VK→Prop:=fun vs H Q=>∃ (a:Addr) (ns:List Int),vs=[.ref a]∧Sq K H a (ns.map V.int)∧ns.length<64 ∧
 ∀ ms:List Int,ms.Perm ns→ms.Pairwise (·≤·)→∀ l,H l=none→Q (.ref l) (upd H l (.lst (ms.map V.int)))
theorem sJ {X:Cx}:CallR X (.builtin "sorted") (lP X.K):=by
 intro pins s σ H xs us Q I r ⟨a,ns,e,hq,h64,q⟩
 subst e
 obtain ⟨u,rfl,ru⟩:=pB r
 obtain rfl:u=Value.ref a:=ru
 have go:∀ (its:List Value) (ob:Obj) (n:Nat) (T:String),Vals (ns.map V.int) its→s.heap.get? a=some ob→ob.cls = .type T→(T="list"∨T="tuple")→ob.data = .seq its.toArray n→wpAny (model X.prog X.w) X.A (call (.builtin "sorted") [.ref a]) (EP X pins σ Q) X.xe s:=by
  intro its ob n T rv e0 ec eT ed
  have hi:=jR rv
  refine wR e0 ec eT ed hi (by rw [IntsAre.len hi];exact h64) fun out ns' a1 a2 a3=>?_
  obtain ⟨c,he⟩:=sortedAll_at s.heap its out
  refine ⟨.ref (s.heap.objs.size+1),_,I.laid (t':=s.toks) (o := .lst (ns'.map V.int)) (fun b ob q=>sortedAll_old q) (Nat.le_succ _) ?_,rfl,q ns' a2 a3 _ (I.hok.fresh (Nat.le_succ _))⟩
  refine ⟨?_,out.toList,c,kI a1,he⟩
  rw [List.length_map,a2.length_eq]
  exact Nat.le_trans (Nat.le_of_lt h64) (by decide)
 rcases hq with hq | hq
 ·obtain ⟨its,rv,pl,hz⟩:=I.list hq
  obtain ⟨o,ho,hc,n,hd⟩:=pl.isList
  exact go its o n "list" rv ho hc (.inl rfl) hd
 ·obtain ⟨its,rv,pl,hz⟩:=I.tuple hq
  obtain ⟨o,ho,hc,n,hd⟩:=pl
  exact go its o n "tuple" rv ho hc (.inr rfl) hd
theorem gC {X:Cx}{K:PySem.W.Frag}(hK:X.K=K):CallR X (.builtin "sorted") (lP K):=by subst hK;exact sJ
mutual
noncomputable def toP:Dt→PyData
 | .non => .none
 | .bl b => .bool b
 | .int i => .int i
 | .str x => .str x
 | .tup ds => .tuple (kT ds)
 | .lst ds => .list (kT ds)
noncomputable def kT:List Dt→List PyData
 | []=>[]
 | d :: ds=>toP d :: kT ds
end
mutual
theorem yM:∀ d,(toP d).depth=dep d
 | .non=>rfl
 | .bl b=>rfl
 | .int i=>rfl
 | .str x=>rfl
 | .tup ds=>by show (PyData.tuple (kT ds)).depth=_;unfold PyData.depth dep;rw [pQ]
 | .lst ds=>by show (PyData.list (kT ds)).depth=_;unfold PyData.depth dep;rw [pQ]
theorem pQ:∀ ds,PyData.depthAll (kT ds)=jZ ds
 | []=>by unfold kT jZ PyData.depthAll;rfl
 | d :: ds=>by unfold kT jZ PyData.depthAll;rw [yM,pQ]
end
mutual
theorem nU:∀ d,(toP d).hasDict=false
 | .non=>by unfold toP PyData.hasDict;rfl
 | .bl b=>by unfold toP PyData.hasDict;rfl
 | .int i=>by unfold toP PyData.hasDict;rfl
 | .str x=>by unfold toP PyData.hasDict;rfl
 | .tup ds=>by unfold toP PyData.hasDict;exact hW ds
 | .lst ds=>by unfold toP PyData.hasDict;exact hW ds
theorem hW:∀ ds,PyData.hasDictAll (kT ds)=false
 | []=>by unfold kT PyData.hasDictAll;rfl
 | d :: ds=>by unfold kT PyData.hasDictAll;rw [nU,hW];rfl
end
section
variable {X:Cx}{pins:List (Addr × Obj)}{σ:St}{H:Hp}{s:Shared}
mutual
theorem Inv.reads (I:Inv X pins σ H s):∀ {d:Dt} {x:V} {v:Value},RelV x v→Sh X.K H d x→∃ as,Reads s.heap v (toP d) as
 | .non,x,v,r,h=>by obtain rfl:x = .non:=h;obtain rfl:v = .none:=r;exact ⟨_, .none⟩
 | .bl b,x,v,r,h=>by obtain rfl:x = .bl b:=h;obtain rfl:v = .bool b:=r;exact ⟨_, .bool b⟩
 | .int i,x,v,r,h=>by obtain rfl:x = .int i:=h;obtain ⟨t,rfl⟩:=r;exact ⟨_, .int i t⟩
 | .str y,x,v,r,h=>by obtain rfl:x = .str y:=h;obtain ⟨t,rfl⟩:=r;exact ⟨_, .str y t⟩
 | .tup ds,x,v,r,⟨a,xs,h1,h2,h3⟩=>by
  subst h1
  obtain rfl:v=Value.ref a:=r
  obtain ⟨its,rv,⟨o,ho,hc,n,hd⟩,_⟩:=I.tuple h2
  obtain ⟨as,ha⟩:=Inv.readsAll I rv h3
  exact ⟨_, .tuple ho hc hd ha⟩
 | .lst ds,x,v,r,⟨a,xs,h1,h2,h3⟩=>by
  subst h1
  obtain rfl:v=Value.ref a:=r
  obtain ⟨its,rv,pl,_⟩:=I.list h2
  obtain ⟨o,ho,hc,n,hd⟩:=pl.isList
  obtain ⟨as,ha⟩:=Inv.readsAll I rv h3
  exact ⟨_, .list ho hc hd ha⟩
theorem Inv.readsAll (I:Inv X pins σ H s):∀ {ds:List Dt} {xs:List V} {us:List Value},Vals xs us→ShL X.K H ds xs→∃ as,ReadsAll s.heap us (kT ds) as
 | [],xs,us,r,h=>by obtain rfl:xs=[]:=h;cases r;exact ⟨_, .nil⟩
 | d :: ds,xs,us,r,⟨x,t,h1,h2,h3⟩=>by
  subst h1
  cases r with
  | cons r1 r2=>
   obtain ⟨as,h4⟩:=Inv.reads I r1 h2
   obtain ⟨bs,h5⟩:=Inv.readsAll I r2 h3
   exact ⟨_, .cons h4 h5⟩
end
end
noncomputable def okR (d:Dt):Prop:=(toP d).showable=true∧(toP d).leavesShort 1930=true∧(toP d).bulk≤4000∧dep d≤100
noncomputable def aAQ (K:PySem.W.Frag):List V→Hp→VK→Prop:=fun vs H Q=>∃ (d:Dt) (x:V),vs=[x]∧Sh K H d x∧okR d∧Q (.str (toP d).shown) H
theorem wG {X:Cx}{k:Nat}(hr:Room k X.A):CallR X (.builtin "repr") (aAQ X.K):=by
 intro pins s σ H xs us Q I r ⟨d,x,e,hx,⟨k1,k2,k3,k4⟩,q⟩
 subst e
 obtain ⟨u,rfl,ru⟩:=pB r
 obtain ⟨as,hR⟩:=I.reads ru hx
 have hsz:(toP d).shown.length≤sizeLine:=by
  refine Nat.le_trans (PyData.shown_le_bulk 1930 (by decide) _ k2) (Nat.le_trans (Nat.add_le_add_right (Nat.mul_le_mul_left _ k3) _) (by decide))
 have fin:∀ (h':Heap) (t:Tok) (tk:Nat),(∀ b o,s.heap.get? b=some o→h'.get? b=some o)→EP X pins σ Q (.str (toP d).shown t) { s with heap:=h',toks:=tk }:=fun h' t tk kp=>
  ⟨.str (toP d).shown,H,I.kept (t':=tk) kp,⟨t,rfl⟩,q⟩
 cases u with
 | ref a=>
  exact repr_of_reads' hR k1 (PyData.noDict_hsm (nU d)) hr.gd (by rw [yM];have:=hr.un;omega) (fun _ _ e=>e) (fun h' u tk hk=>fin h' u tk hk) hsz
 | none=>
  cases d <;> first | (cases hR;done) | skip
  exact P.repr_of_none (fin _ _ _ fun _ _ e=>e)
 | bool b=>
  cases d <;> cases hR
  exact P.repr_of_bool (fin _ _ _ fun _ _ e=>e)
 | int i t=>
  cases d <;> cases hR
  exact P.repr_of_int (by simpa [toP,PyData.showable] using k1) (fin _ _ _ fun _ _ e=>e)
 | str y t=>
  cases d <;> cases hR
  exact P.repr_of_str (fin _ _ _ fun _ _ e=>e) hsz
 | _=>cases d <;> cases hR
theorem nY {X:Cx}{K:PySem.W.Frag}{k:Nat}(hK:X.K=K)(hr:Room k X.A):CallR X (.builtin "repr") (aAQ K):=by subst hK;exact wG hr
end L2
namespace L2
open PySem PySem.Spec PyProof.Rows
noncomputable def ItAt (b:Bool) (h:Heap) (it l:Addr) (i:Nat):Prop:=∃ o,h.get? it=some o∧o.cls = .type (if b then "list_iterator" else "tuple_iterator")∧o.data = .fields #[.ref l, .int i 0]
noncomputable def ObAt (b:Bool) (h:Heap) (l:Addr) (us:Array Value):Prop:=∃ o,h.get? l=some o∧o.cls = .type (if b then "list" else "tuple")∧∃ n,o.data = .seq us n
theorem ItAt.keep {b:Bool}{h h':Heap}{it l:Addr}{i:Nat}(x:ItAt b h it l i)(e:∀ o,h.get? it=some o→h'.get? it=some o):ItAt b h' it l i:=let ⟨o,ho,r⟩:=x;⟨o,e _ ho,r⟩
theorem ObAt.keep {b:Bool}{h h':Heap}{l:Addr}{us:Array Value}(x:ObAt b h l us)(e:∀ o,h.get? l=some o→h'.get? l=some o):ObAt b h' l us:=let ⟨o,ho,r⟩:=x;⟨o,e _ ho,r⟩
theorem ItAt.lt {b:Bool}{h:Heap}{it l:Addr}{i:Nat}(x:ItAt b h it l i):it<h.objs.size:=let ⟨_,ho,_⟩:=x;Heap.lt_size ho
section
variable {prog:Program}{w:World}{A:Around}{E:Value→Shared→Prop}{s:Shared}
theorem mT {it t:Addr}{i:Nat}{us:Array Value}{x:Value}{Q:Value→Shared→Prop}(hit:s.heap.IsTupleIter it t i)(ht:s.heap.IsTuple t us)(hx:us[i]?=some x)
  (q:∀ h',h'.IsTupleIter it t (i+1)→Heap.SameBut it s.heap h'→Q x { s with heap:=h' }):wpAny (model prog w) A (Builtin.SmallTypes.nextOf (.ref it)) Q E s:=by
 obtain ⟨ob,e1,e2,e3⟩:=id hit
 obtain ⟨ol,f1,_,nl,f2⟩:=ht
 unfold Builtin.SmallTypes.nextOf;refine wpAny_bind (wpAny_callSpecial?_slot (name:=Str.ofString "__next__") hit.typeIs F.slot_tuple_iterator_next (wpAny_call_entry F.slot_tuple_iterator_next hit.typeIs F.entry_tuple_iterator_next ?g (F.args_tuple_iterator_next_1 _)))
 case g=>
  show wpAny _ _ (field (.ref it) 0 >>= _) _ _ s;refine wpAny_bind (wpAny_field e1 e3 (x := .ref t) rfl ?g)
  case g=>
   show wpAny _ _ (if (Value.ref t == Value.none)=true then _ else _) _ _ s;rw [if_neg (show ¬ ((Value.ref t == Value.none)=true) from Bool.false_ne_true)]
   show wpAny _ _ (field (.ref it) 1 >>= _) _ _ s;refine wpAny_bind (wpAny_field e1 e3 (x := .int i 0) rfl ?g)
   case g=>
    show wpAny _ _ (seqItems? (.ref t) >>= _) _ _ s;refine wpAny_bind (wpAny_seqItems f1 f2 ?g)
    case g=>
     simp only [Int.toNat_natCast,hx];refine wpAny_bind (wpAny_setField e1 e3 (by simp) (wpAny_pure ⟨x,rfl,wpAny_pure (q _ ?g (Heap.SameBut.update ..))⟩))
     case g=>exact ⟨_,Heap.get?_update_self _ e1 (Obj.isFreed_of_fields (Obj.data_mapFields e3 _)),(Obj.cls_mapFields ..).trans e2,by rw [Obj.data_mapFields e3];simp [rawInt]⟩
theorem nM {it t:Addr}{i:Nat}{us:Array Value}{Q:Value→Shared→Prop}(hh:A.handled=none)(hit:s.heap.IsTupleIter it t i)(ht:s.heap.IsTuple t us)(hx:us[i]?=none)
  (q:∀ h' e,Heap.ExtBut it s.heap h'→(∃ o,h'.get? e=some o∧o.cls = .type "StopIteration")→E (.ref e) { s with heap:=h' }):wpAny (model prog w) A (Builtin.SmallTypes.nextOf (.ref it)) Q E s:=by
 obtain ⟨ob,e1,e2,e3⟩:=id hit
 obtain ⟨ol,f1,_,nl,f2⟩:=ht
 unfold Builtin.SmallTypes.nextOf;refine wpAny_bind (wpAny_callSpecial?_slot (name:=Str.ofString "__next__") hit.typeIs F.slot_tuple_iterator_next (wpAny_call_entry F.slot_tuple_iterator_next hit.typeIs F.entry_tuple_iterator_next ?g (F.args_tuple_iterator_next_1 _)))
 case g=>
  show wpAny _ _ (field (.ref it) 0 >>= _) _ _ s;refine wpAny_bind (wpAny_field e1 e3 (x := .ref t) rfl ?g)
  case g=>
   show wpAny _ _ (if (Value.ref t == Value.none)=true then _ else _) _ _ s;rw [if_neg (show ¬ ((Value.ref t == Value.none)=true) from Bool.false_ne_true)]
   show wpAny _ _ (field (.ref it) 1 >>= _) _ _ s;refine wpAny_bind (wpAny_field e1 e3 (x := .int i 0) rfl ?g)
   case g=>
    show wpAny _ _ (seqItems? (.ref t) >>= _) _ _ s;refine wpAny_bind (wpAny_seqItems f1 f2 ?g)
    case g=>
     simp only [Int.toNat_natCast,hx];refine wpAny_bind (wpAny_rule (wpAny_bind (wpAny_setField e1 e3 (by simp) ?g)))
     case g=>
      show wpAny _ _ (newExc (.type "StopIteration") [] >>= _) _ _ _;refine wpAny_bind ?g
      case g=>
       simp only [newExc,newTuple];refine wpAny_bind (wpAny_newObj_type ?g (by size_fits))
       case g=>
        refine wpAny_bind (m:=firstArgMember _ _) (wpAny_of_eq (a:=Value.none) (by first | rfl | (simp only [firstArgMember];rfl)) ?g)
        case g=>
         refine wpAny_newObj_type ?g (by size_fits)
         case g=>
          simp only [raiseNew];refine wpAny_bind (wpAny_handled ?g)
          case g=>
           first | rw [show A.in1.handled=none from hh] | rw [hh]
           exact wpAny_bind (wpAny_pure (wpAny_throw (q _ _ (((Heap.SameBut.update ..).extBut.push _).push _) ⟨_,Heap.get?_push_size _ rfl,rfl⟩)))
theorem pK {b:Bool}{it l:Addr}{i:Nat}{us:Array Value}{x:Value}{Q:Value→Shared→Prop}(hit:ItAt b s.heap it l i)(ho:ObAt b s.heap l us)(hx:us[i]?=some x)
  (q:∀ h',ItAt b h' it l (i+1)→Heap.SameBut it s.heap h'→Q x { s with heap:=h' }):wpAny (model prog w) A (Builtin.SmallTypes.nextOf (.ref it)) Q E s:=by
 cases b with
 | true=>exact wpAny_nextOf_list_item (l:=l) (i:=i) (items:=us) hit ho hx q
 | false=>exact mT (t:=l) (i:=i) (us:=us) hit ho hx q
theorem wV {b:Bool}{it l:Addr}{i:Nat}{us:Array Value}{Q:Value→Shared→Prop}(hh:A.handled=none)(hit:ItAt b s.heap it l i)(ho:ObAt b s.heap l us)(hx:us[i]?=none)
  (q:∀ h' e,Heap.ExtBut it s.heap h'→(∃ o,h'.get? e=some o∧o.cls = .type "StopIteration")→E (.ref e) { s with heap:=h' }):wpAny (model prog w) A (Builtin.SmallTypes.nextOf (.ref it)) Q E s:=by
 cases b with
 | true=>exact wpAny_nextOf_list_end (l:=l) (i:=i) (items:=us) hh hit ho hx q
 | false=>exact nM (t:=l) (i:=i) (us:=us) hh hit ho hx q
noncomputable abbrev itO (b:Bool) (l:Addr):Obj:={ cls := .type (if b then "list_iterator" else "tuple_iterator"),data := .fields #[.ref l, .int 0 0] }
theorem tQ {b:Bool}{l:Addr}{us:Array Value}{Q:Value→Shared→Prop}(ho:ObAt b s.heap l us)(q:Q (.ref s.heap.objs.size) { s with heap:=s.heap.push (itO b l) }):wpAny (model prog w) A (pyIter (.ref l)) Q E s:=by
 cases b with
 | true=>exact wpAny_pyIter_list (show s.heap.IsList l us from ho) q
 | false=>exact wpAny_pyIter_tuple (show s.heap.IsTuple l us from ho) q
structure ZA (z ti to i1 i2:Addr):Prop where
 a1:ti≠z
 a2:to≠z
 a3:i1≠z
 a4:i2≠z
 a5:ti≠to
 a6:ti≠i1
 a7:ti≠i2
 a8:to≠i1
 a9:to≠i2
 a10:i1≠i2
noncomputable def ZP (z to i1 i2 c:Addr):Prop:=c≠z∧c≠to∧c≠i1∧c≠i2
theorem aAv {b1 b2:Bool}{z ti to i1 i2 l1 l2:Addr}{k1 k2:Nat}{xs ys:Array Value}{x y u v:Value}{Q:Value→Shared→Prop}(D:ZA z ti to i1 i2)(D1:ZP z to i1 i2 l1)(D2:ZP z to i1 i2 l2)(hz:IsZip s.heap z ti to .none)(hti:IsPair s.heap ti (.ref i1) (.ref i2))(hto:IsPair s.heap to u v)
  (h1:ItAt b1 s.heap i1 l1 k1) (h2:ItAt b2 s.heap i2 l2 k2) (o1:ObAt b1 s.heap l1 xs) (o2:ObAt b2 s.heap l2 ys) (hx:xs[k1]?=some x) (hy:ys[k2]?=some y)
  (q:∀ h',IsZip h' z ti to (rawInt s.heap.objs.size)→IsPair h' to x y→ItAt b1 h' i1 l1 (k1+1)→ItAt b2 h' i2 l2 (k2+1)→IsPair h' s.heap.objs.size x y→h'.objs.size=s.heap.objs.size+1→(∀ c o,ZP z to i1 i2 c→s.heap.get? c=some o→h'.get? c=some o)→Q (.ref s.heap.objs.size) { s with heap:=h' }) :
  wpAny (model prog w) A (Builtin.«zip.__next__» ⟨[.ref z],[]⟩) (fun fin s'=>∃ r,fin = .done (.ret r)∧Q r s') E s:=by
 show wpAny _ _ (field (.ref z) 2 >>= _) _ _ _;refine wpAny_bind (wpAny_field hz rfl (x := .bool false) rfl ?g)
 case g=>
 show wpAny _ _ (field (.ref z) 3 >>= _) _ _ _;refine wpAny_bind (wpAny_field hz rfl (x := .ref ti) rfl (wpAny_bind (wpAny_seqItems hti rfl ?g)))
 case g=>
 show wpAny _ _ (Builtin.SmallTypes.ownedTupleIsFree (.ref z) >>= _) _ _ _;unfold Builtin.SmallTypes.ownedTupleIsFree;refine wpAny_bind (wpAny_bind (wpAny_field hz rfl (x := .none) rfl (wpAny_pure ?g)))
 case g=>
 simp only [if_true];refine wpAny_bind (wpAny_rule (wpAny_bind (wpAny_field hz rfl (x := .ref to) rfl (wpAny_bind (wpAny_setField_rec hz (by simp) fun H1 z1 s1=>?g)))))
 case g=>
 replace z1:IsZip H1 z ti to .ellipsis:=z1
 refine wpAny_bind ?g
 case g=>
 simp only [List.zipIdx_cons,List.zipIdx_nil,List.forIn_cons,List.forIn_nil];refine wpAny_bind (wpAny_bind (wpAny_onRaise ?g))
 case g=>
 show wpAny _ _ (Builtin.SmallTypes.nextOf (.ref i1) >>= _) _ _ _;refine wpAny_bind (pK (b:=b1) (h1.keep fun o e=>s1.extBut _ _ D.a3 e) (o1.keep fun o e=>s1.extBut _ _ D1.1 e) hx fun H2 t1 s2=>wpAny_pure ?g)
 case g=>
 have p2:IsPair H2 to u v:=s2.extBut _ _ D.a8 (s1.extBut _ _ D.a2 hto)
 refine wpAny_bind (wpAny_seqItems p2 rfl (wpAny_bind (wpAny_updateSeq_pair p2 fun H3 p3 s3=>?g)))
 case g=>
 replace p3:IsPair H3 to x v:=p3
 refine wpAny_bind (wpAny_letGo (wpAny_pure (wpAny_bind (wpAny_bind (wpAny_onRaise ?g)))))
 case g=>
 show wpAny _ _ (Builtin.SmallTypes.nextOf (.ref i2) >>= _) _ _ _
 refine wpAny_bind (pK (b:=b2) (h2.keep fun o e=>s3.extBut _ _ D.a9.symm (s2.extBut _ _ D.a10.symm (s1.extBut _ _ D.a4 e))) (o2.keep fun o e=>s3.extBut _ _ D2.2.1 (s2.extBut _ _ D2.2.2.1 (s1.extBut _ _ D2.1 e))) hy fun H4 t2 s4=>wpAny_pure ?g)
 case g=>
 have p4:IsPair H4 to x v:=s4.extBut _ _ D.a9 p3
 refine wpAny_bind (wpAny_seqItems p4 rfl (wpAny_bind (wpAny_updateSeq_pair p4 fun H5 p5 s5=>?g)))
 case g=>
 replace p5:IsPair H5 to x y:=p5
 refine wpAny_bind (wpAny_letGo (wpAny_pure (wpAny_pure (wpAny_bind (wpAny_seqItems p5 rfl (wpAny_bind (wpAny_newTuple ?g)))))))
 case g=>
 have sz:H5.objs.size=s.heap.objs.size:=by rw [s5.1,s4.1,s3.1,s2.1,s1.1]
 have z5:IsZip H5 z ti to .ellipsis:=s5.extBut _ _ D.a2.symm (s4.extBut _ _ D.a4.symm (s3.extBut _ _ D.a2.symm (s2.extBut _ _ D.a3.symm z1)))
 have k5:∀ c o,ZP z to i1 i2 c→s.heap.get? c=some o→H5.get? c=some o:=fun c o n e=>s5.extBut _ _ n.2.1 (s4.extBut _ _ n.2.2.2 (s3.extBut _ _ n.2.1 (s2.extBut _ _ n.2.2.1 (s1.extBut _ _ n.1 e))))
 have t15:ItAt b1 H5 i1 l1 (k1+1):=t1.keep fun o e=>s5.extBut _ _ D.a8.symm (s4.extBut _ _ D.a10 (s3.extBut _ _ D.a8.symm e))
 have t25:ItAt b2 H5 i2 l2 (k2+1):=t2.keep fun o e=>s5.extBut _ _ D.a9.symm e
 have lz:z<H5.objs.size:=Heap.lt_size z5
 show wpAny _ _ (Builtin.SmallTypes.ownedTupleHandOut (.ref z) (.ref H5.objs.size) >>= _) _ _ _;unfold Builtin.SmallTypes.ownedTupleHandOut
 have z6:IsZip (H5.push { cls := .type "tuple",data := .seq #[x,y] }) z ti to .ellipsis:=Heap.get?_push_of_some _ z5
 refine wpAny_bind (wpAny_bind (wpAny_setField_rec z6 (by simp) fun H7 z7 s7=>?g))
 case g=>
 replace z7:IsZip H7 z ti to (rawInt H5.objs.size):=z7
 refine wpAny_setField_rec z7 (by simp) fun H8 z8 s8=>?g
 case g=>
 replace z8:IsZip H8 z ti to (rawInt H5.objs.size):=z8
 have up:∀ c o,c≠z→H5.get? c=some o→H8.get? c=some o:=fun c o n e=>s8.extBut _ _ n (s7.extBut _ _ n (Heap.get?_push_of_some _ e))
 have p8:IsPair H8 H5.objs.size x y:=s8.extBut _ _ (Nat.ne_of_gt lz) (s7.extBut _ _ (Nat.ne_of_gt lz) (Heap.get?_push_size _ rfl))
 have n8:H8.objs.size=H5.objs.size+1:=by rw [s8.1,s7.1,Heap.size_push]
 rw [sz] at z8 p8 n8
 refine wpAny_pure ⟨_,rfl,(?g:Q (.ref H5.objs.size) _)⟩
 case g=>
 rw [sz]
 exact q H8 z8 (up _ _ D.a2 p5) (t15.keep fun o e=>up _ o D.a3 e) (t25.keep fun o e=>up _ o D.a4 e) p8 n8 fun c o n e=>up c o n.1 (k5 c o n e)
theorem aBP {b1 b2:Bool}{z ti to i1 i2 l1 l2:Addr}{k1 k2:Nat}{xs ys:Array Value}{u v:Value}{Q:Fin→Shared→Prop}(hh:A.handled=none)(D:ZA z ti to i1 i2)(D1:ZP z to i1 i2 l1)(D2:ZP z to i1 i2 l2)(hz:IsZip s.heap z ti to .none)(hti:IsPair s.heap ti (.ref i1) (.ref i2))(hto:IsPair s.heap to u v)
  (h1:ItAt b1 s.heap i1 l1 k1) (h2:ItAt b2 s.heap i2 l2 k2) (o1:ObAt b1 s.heap l1 xs) (o2:ObAt b2 s.heap l2 ys) (hend:xs[k1]?=none∨ys[k2]?=none)
  (q:∀ h' e,(∀ c o,ZP z to i1 i2 c→s.heap.get? c=some o→h'.get? c=some o)→(∃ o,h'.get? e=some o∧o.cls = .type "StopIteration")→E (.ref e) { s with heap:=h' }) :
  wpAny (model prog w) A (Builtin.«zip.__next__» ⟨[.ref z],[]⟩) Q E s:=by
 show wpAny _ _ (field (.ref z) 2 >>= _) _ _ _;refine wpAny_bind (wpAny_field hz rfl (x := .bool false) rfl ?g)
 case g=>
 show wpAny _ _ (field (.ref z) 3 >>= _) _ _ _;refine wpAny_bind (wpAny_field hz rfl (x := .ref ti) rfl (wpAny_bind (wpAny_seqItems hti rfl ?g)))
 case g=>
 show wpAny _ _ (Builtin.SmallTypes.ownedTupleIsFree (.ref z) >>= _) _ _ _;unfold Builtin.SmallTypes.ownedTupleIsFree;refine wpAny_bind (wpAny_bind (wpAny_field hz rfl (x := .none) rfl (wpAny_pure ?g)))
 case g=>
 simp only [if_true];refine wpAny_bind (wpAny_rule (wpAny_bind (wpAny_field hz rfl (x := .ref to) rfl (wpAny_bind (wpAny_setField_rec hz (by simp) fun H1 z1 s1=>?g)))))
 case g=>
 replace z1:IsZip H1 z ti to .ellipsis:=z1
 refine wpAny_bind ?g
 case g=>
 simp only [List.zipIdx_cons,List.zipIdx_nil,List.forIn_cons,List.forIn_nil];refine wpAny_bind (wpAny_bind (wpAny_onRaise ?g))
 case g=>
 show wpAny _ _ (Builtin.SmallTypes.nextOf (.ref i1) >>= _) _ _ _
 cases hx:xs[k1]? with
 | none=>
  refine wpAny_bind (wV (b:=b1) hh (h1.keep fun o e=>s1.extBut _ _ D.a3 e) (o1.keep fun o e=>s1.extBut _ _ D1.1 e) hx fun H2 e s2 ⟨oe,e1,e2⟩=>?g)
  case g=>
  have z2:IsZip H2 z ti to .ellipsis:=s2 _ _ D.a3.symm z1
  have ne:e≠z:=fun x=>by subst x;rw [z2] at e1;cases e1;simp at e2
  exact wpAny_setField_rec z2 (by simp) fun H3 _ s3=>q H3 e (fun c o n x=>s3.extBut _ _ n.1 (s2 _ _ n.2.2.1 (s1.extBut _ _ n.1 x))) ⟨oe,s3.extBut _ _ ne e1,e2⟩
 | some x=>
  have hy:ys[k2]?=none:=hend.resolve_left (by rw [hx];exact fun h=>by cases h)
  refine wpAny_bind (pK (b:=b1) (h1.keep fun o e=>s1.extBut _ _ D.a3 e) (o1.keep fun o e=>s1.extBut _ _ D1.1 e) hx fun H2 t1 s2=>wpAny_pure ?g)
  case g=>
  have p2:IsPair H2 to u v:=s2.extBut _ _ D.a8 (s1.extBut _ _ D.a2 hto)
  refine wpAny_bind (wpAny_seqItems p2 rfl (wpAny_bind (wpAny_updateSeq_pair p2 fun H3 p3 s3=>?g)))
  case g=>
  refine wpAny_bind (wpAny_letGo (wpAny_pure (wpAny_bind (wpAny_bind (wpAny_onRaise ?g)))))
  case g=>
  show wpAny _ _ (Builtin.SmallTypes.nextOf (.ref i2) >>= _) _ _ _
  refine wpAny_bind (wV (b:=b2) hh (h2.keep fun o e=>s3.extBut _ _ D.a9.symm (s2.extBut _ _ D.a10.symm (s1.extBut _ _ D.a4 e))) (o2.keep fun o e=>s3.extBut _ _ D2.2.1 (s2.extBut _ _ D2.2.2.1 (s1.extBut _ _ D2.1 e))) hy fun H4 e s4 ⟨oe,e1,e2⟩=>?g)
  case g=>
  have z4:IsZip H4 z ti to .ellipsis:=s4 _ _ D.a4.symm (s3.extBut _ _ D.a2.symm (s2.extBut _ _ D.a3.symm z1))
  have ne:e≠z:=fun x=>by subst x;rw [z4] at e1;cases e1;simp at e2
  exact wpAny_setField_rec z4 (by simp) fun H5 _ s5=>q H5 e (fun c o n x=>s5.extBut _ _ n.1 (s4 _ _ n.2.2.2 (s3.extBut _ _ n.2.1 (s2.extBut _ _ n.2.2.1 (s1.extBut _ _ n.1 x))))) ⟨oe,s5.extBut _ _ ne e1,e2⟩
end
end L2
namespace L2
open PySem PySem.Spec PyProof.Rows
section
variable {X:Cx}{pins:List (Addr × Obj)}{σ:St}{H:Hp}{s:Shared}{h':Heap}
theorem Inv.turnedL {t':Nat}{ch:List Addr}(I:Inv X pins σ H s)(hf:∀ b∈ch,FpOk X pins H b)(k:∀ b o,b∉ch→s.heap.get? b=some o→h'.get? b=some o):Inv X pins σ H { s with heap:=h',toks:=t' }:=by
 have nit:∀ b u,H b=some u→b∉ch:=fun b u e z=>by rw [(hf b z).1] at e;cases e
 refine I.step (g':=s.gens) (d':=s.drawn) (ch:=ch) (fun b hb=>?_) (fun b o _ _ hc e _=>k b o hc e) (fun b o _ _ hc e _=>⟨o.slots,k b o hc e⟩) (fun _ _ _ _ n=>n) (fun b o hc e=>⟨o,k b o hc e⟩) (fun _ _ e=>e) (fun _ _ _ e=>e) (fun b ps e=>⟨#[],by rw [e];simp⟩) (fun m hm=>?_) (fun b u e=>?_) I.bare
 ·obtain ⟨_,f1,_,f3,f4,f5⟩:=hf b hb
  exact ⟨f3,f1,f4,f5⟩
 ·obtain ⟨o,es,ep,ho,r⟩:=hm
  exact ⟨o,es,ep,k _ o (fun z=>(hf _ z).2.1 rfl) ho,r⟩
 ·refine (I.hok b u e).stay (fun c v hc q=>k c v ?_ q) (fun _ q=>q) fun _ _ q=>q
  rcases hc with z | z
  ·rw [z];exact nit b u e
  ·exact nit c _ z
end
noncomputable def SqB (b:Bool) (K:PySem.W.Frag) (H:Hp) (l:Addr) (xs:List V):Prop:=match b with | true=>SqL K H l xs | false=>SqT K H l xs
section
variable {X:Cx}{pins:List (Addr × Obj)}{σ:St}{H:Hp}{s:Shared}
theorem Inv.obAt {b:Bool}{l:Addr}{xs:List V}(I:Inv X pins σ H s)(h:SqB b X.K H l xs):∃ its:List Value,Vals xs its∧ObAt b s.heap l its.toArray∧xs.length≤sizeLine:=by
 cases b with
 | true=>
  obtain ⟨its,rv,pl,hz⟩:=I.list h
  obtain ⟨o,ho,hc,n,hd⟩:=pl.isList
  exact ⟨its,rv,⟨o,ho,hc,n,hd⟩,hz⟩
 | false=>
  obtain ⟨its,rv,⟨o,ho,hc,n,hd⟩,hz⟩:=I.tuple h
  exact ⟨its,rv,⟨o,ho,hc,n,hd⟩,hz⟩
theorem Inv.sqB_inj {b:Bool}{l:Addr}{xs ys:List V}(I:Inv X pins σ H s)(h:SqB b X.K H l xs)(h':SqB b X.K H l ys):xs=ys:=by
 cases b with
 | true=>exact I.list_inj h h'
 | false=>exact I.tuple_inj h h'
end
noncomputable def Itz (K : PySem.W.Frag) (b1 b2 : Bool) (l1 l2 : Addr) : It :=
  ⟨fun i H => ∃ xs ys x y, SqB b1 K H l1 xs ∧ SqB b2 K H l2 ys ∧ xs[i]? = some x ∧ ys[i]? = some y,
   fun i H v H' => ∃ p x y, v = .ref p ∧ H p = none ∧ H' = upd H p (.tup [x, y]) ∧ (∀ xs, SqB b1 K H l1 xs → xs[i]? = some x) ∧ ∀ ys, SqB b2 K H l2 ys → ys[i]? = some y,
   fun i H => ∃ xs ys, SqB b1 K H l1 xs ∧ SqB b2 K H l2 ys ∧ (xs.length ≤ i ∨ ys.length ≤ i)⟩
noncomputable def zTn (b1 b2:Bool) (z ti to i1 i2 l1 l2:Addr) (i:Nat) (h:Heap):Prop:=IsZip h z ti to .none∧IsPair h ti (.ref i1) (.ref i2)∧(∃ u v,IsPair h to u v)∧ItAt b1 h i1 l1 i∧ItAt b2 h i2 l2 i
theorem aAN {P:Program}{w:World}{K:PySem.W.Frag}{es:List Expr}{k:Nat}{pos:Pos}{b1 b2:Bool}{z ti to i1 i2 l1 l2:Addr}(D:ZA z ti to i1 i2)(D1:ZP z to i1 i2 l1)(D2:ZP z to i1 i2 l2) :
  aAt P w K (.Tuple es k pos) (Itz K b1 b2 l1 l2) [z,ti,to,i1,i2] z (zTn b1 b2 z ti to i1 i2 l1 l2) where
 mem:=by simp
 obj:=fun i h ⟨h1,h2,⟨u,v,h3⟩,⟨o4,h4,_,d4⟩,⟨o5,h5,_,d5⟩⟩ b hb=>by
  simp only [List.mem_cons,List.not_mem_nil,or_false] at hb
  rcases hb with rfl | rfl | rfl | rfl | rfl
  ·exact ⟨_,h1,fun v q=>by cases q⟩
  ·exact ⟨_,h2,fun v q=>by cases q⟩
  ·exact ⟨_,h3,fun v q=>by cases q⟩
  ·exact ⟨_,h4,fun v q=>by rw [d4] at q;cases q⟩
  ·exact ⟨_,h5,fun v q=>by rw [d5] at q;cases q⟩
 keep:=fun i h h' ⟨h1,h2,⟨u,v,h3⟩,h4,h5⟩ kp=>⟨kp z (by simp) _ h1,kp ti (by simp) _ h2,⟨u,v,kp to (by simp) _ h3⟩,h4.keep fun o e=>kp i1 (by simp) o e,h5.keep fun o e=>kp i2 (by simp) o e⟩
 item:=by
  intro X hP hw hK hc i pins s σ H E I hf st hg
  subst hP hw hK
  obtain ⟨h1,h2,⟨u0,v0,h3⟩,h4,h5⟩:=st
  obtain ⟨xs,ys,x,y,q1,q2,hx,hy⟩:=hg
  obtain ⟨us,r1,o1,z1⟩:=I.obAt q1
  obtain ⟨vs,r2,o2,z2⟩:=I.obAt q2
  obtain ⟨ux,hux,rx⟩:=r1.get hx
  obtain ⟨uy,huy,ry⟩:=r2.get hy
  have hT:s.TypeIs (.ref z) "zip":=⟨_,h1,rfl⟩
  unfold pyNext
  refine wpAny_bind (wpAny_attempt (wpAny_callSpecial?_slot (name:=Str.ofString "__next__") hT F.slot_zip_next (wpAny_call_entry F.slot_zip_next hT F.entry_zip_next (aAv D D1 D2 h1 h2 h3 h4 h5 o1 o2 (by simpa using hux) (by simpa using huy) fun h' g1 g2 g3 g4 g5 g6 kp=>wpAny_pure ⟨_,rfl,?g⟩) (F.args_zip_next_1 _))))
  case g=>
  refine wpAny_letOwnedTupleGo_zip (s:={ s with heap:=h' }) g1 fun h2' g1' sb=>?g
  case g=>
  have lt:∀ b∈[z,ti,to,i1,i2],b<s.heap.objs.size:=fun b hb=>by
   simp only [List.mem_cons,List.not_mem_nil,or_false] at hb
   rcases hb with rfl | rfl | rfl | rfl | rfl
   ·exact Heap.lt_size h1
   ·exact Heap.lt_size h2
   ·exact Heap.lt_size h3
   ·exact h4.lt
   ·exact h5.lt
  have kb:∀ c o,c∉[z,ti,to,i1,i2]→s.heap.get? c=some o→h'.get? c=some o:=fun c o n e=>kp c o ⟨fun q=>n (by simp [q]),fun q=>n (by simp [q]),fun q=>n (by simp [q]),fun q=>n (by simp [q])⟩ e
  have hn:H s.heap.objs.size=none:=I.hok.fresh (Nat.le_refl _)
  have I1:Inv X pins σ (upd H s.heap.objs.size (.tup [x,y])) { s with heap:=s.heap.push { cls := .type "tuple",data := .seq #[ux,uy] } }:=
   I.laid (t':=s.toks) (fun b o e=>Heap.get?_push_of_some _ e) (Nat.le_refl _) (show ObjOk X.prog X.w _ _ _ (.tup [x,y]) from ⟨show 2≤sizeLine by decide,[ux,uy], .cons rx (.cons ry .nil),TupN.new _ _⟩)
  have hf1:∀ b∈[z,ti,to,i1,i2],FpOk X pins (upd H s.heap.objs.size (.tup [x,y])) b:=fun b hb=>by
   obtain ⟨f0,f⟩:=hf b hb
   exact ⟨by rw [aP (Nat.ne_of_lt (lt b hb))];exact f0,f⟩
  have I2:Inv X pins σ (upd H s.heap.objs.size (.tup [x,y])) { s with heap:=h' }:=I1.turnedL (t':=s.toks) hf1 fun b o nb e=>by
   rcases Heap.get?_push_cases e with ⟨eb,eo⟩ | e
   ·subst eb;subst eo
    exact g5
   ·exact kb b o nb e
  have I3:Inv X pins σ (upd H s.heap.objs.size (.tup [x,y])) { s with heap:=h2' }:=I2.turnedL (t':=s.toks) hf1 fun b o nb e=>sb.extBut _ _ (fun q=>nb (by simp [q])) e
  exact ⟨.ref s.heap.objs.size,_,I3,rfl,⟨_,x,y,rfl,hn,rfl,fun xs' e=>by rw [I.sqB_inj e q1];exact hx,fun ys' e=>by rw [I.sqB_inj e q2];exact hy⟩,
   ⟨g1',sb.extBut _ _ D.a1 (kp _ _ ⟨D.a1,D.a5,D.a6,D.a7⟩ h2),⟨_,_,sb.extBut _ _ D.a2 g2⟩,g3.keep fun o e=>sb.extBut _ _ D.a3 e,g4.keep fun o e=>sb.extBut _ _ D.a4 e⟩,fun b hb=>(hf1 b hb).1⟩
 done:=by
  intro X hP hw hK hc i pins s σ H E I hf st hg
  subst hP hw hK
  obtain ⟨h1,h2,⟨u0,v0,h3⟩,h4,h5⟩:=st
  obtain ⟨xs,ys,q1,q2,hl⟩:=hg
  obtain ⟨us,r1,o1,z1⟩:=I.obAt q1
  obtain ⟨vs,r2,o2,z2⟩:=I.obAt q2
  have l1':=r1.length
  have l2':=r2.length
  have hT:s.TypeIs (.ref z) "zip":=⟨_,h1,rfl⟩
  unfold pyNext
  refine wpAny_bind (wpAny_attempt (wpAny_callSpecial?_slot (name:=Str.ofString "__next__") hT F.slot_zip_next (wpAny_call_entry F.slot_zip_next hT F.entry_zip_next (aBP (I.ok.hd hc) D D1 D2 h1 h2 h3 h4 h5 o1 o2 (hl.elim (fun h => .inl (by simp;omega)) fun h => .inr (by simp;omega)) fun h' e kp ⟨o,e1,e2⟩=>?g) (F.args_zip_next_1 _))))
  case g=>
  refine wpAny_bind (wpAny_isInstance (T:="StopIteration") (b:=true) ⟨o,e1,e2⟩ isSubtype_stop (wpAny_pure ⟨rfl,?g⟩))
  case g=>
  exact I.turnedL (t':=s.toks) hf fun c o n e=>kp c o ⟨fun q=>n (by simp [q]),fun q=>n (by simp [q]),fun q=>n (by simp [q]),fun q=>n (by simp [q])⟩ e
 self:=fun _ _ _ _ _ st q=>wpAny_pyIter_zip st.1 q
noncomputable abbrev zH1 (h:Heap) (b1:Bool) (l1:Addr):Heap:=h.push (itO b1 l1)
noncomputable abbrev zH2 (h:Heap) (b1 b2:Bool) (l1 l2:Addr):Heap:=(zH1 h b1 l1).push (itO b2 l2)
noncomputable abbrev zH3 (h:Heap) (b1 b2:Bool) (l1 l2:Addr):Heap:=(zH2 h b1 b2 l1 l2).push { cls := .type "tuple",data := .seq #[.ref h.objs.size, .ref (zH1 h b1 l1).objs.size] }
noncomputable abbrev zH4 (h:Heap) (b1 b2:Bool) (l1 l2:Addr):Heap:=(zH3 h b1 b2 l1 l2).push { cls := .type "tuple",data := .seq #[.none, .none] }
noncomputable abbrev zH5 (h:Heap) (b1 b2:Bool) (l1 l2:Addr):Heap:=(zH4 h b1 b2 l1 l2).push { cls := .type "zip",data := .fields #[.none, .bool false, .bool false, .ref (zH2 h b1 b2 l1 l2).objs.size, .ref (zH3 h b1 b2 l1 l2).objs.size] }
theorem ObAt.push {b:Bool}{h:Heap}{l:Addr}{us:Array Value}(x:ObAt b h l us)(o:Obj):ObAt b (h.push o) l us:=x.keep fun _ e=>Heap.get?_push_of_some _ e
theorem aCd (b1 b2:Bool)(l1 l2:Addr)(xs ys:Array Value) :
  Meets (Builtin.«zip.__new__» ⟨[.type "zip", .ref l1, .ref l2],[]⟩) (fun _ R s=>ObAt b1 s.heap l1 xs∧ObAt b2 s.heap l2 ys∧R (.ok (.ret (.ref (zH4 s.heap b1 b2 l1 l2).objs.size))) { s with heap:=zH5 s.heap b1 b2 l1 l2 }):=
 .of_wp fun prog w A R s h=>by
  obtain ⟨hp,g,d,tk,os⟩:=s;obtain ⟨m1,m2,q⟩:=h
  have hsub:=sub_zip;have n1:ObAt b1 (Shared.heap ⟨hp,g,d,tk,os⟩) l1 xs:=m1
  have n2:ObAt b2 (Shared.heap ⟨hp.push (itO b1 l1),g,d,tk,os⟩) l2 ys:=ObAt.push m2 _
  wp_walk using tQ n1,tQ n2
  exact ⟨_,rfl,q⟩
theorem aAo {prog:Program}{w:World}{A:Around}{E:Value→Shared→Prop}{s:Shared}{b1 b2:Bool}{l1 l2:Addr}{xs ys:Array Value}{Q:Value→Shared→Prop}(o1:ObAt b1 s.heap l1 xs)(o2:ObAt b2 s.heap l2 ys)
  (q:∀ h',zTn b1 b2 (s.heap.objs.size+4) (s.heap.objs.size+2) (s.heap.objs.size+3) s.heap.objs.size (s.heap.objs.size+1) l1 l2 0 h'→(∀ c o,s.heap.get? c=some o→h'.get? c=some o)→Q (.ref (s.heap.objs.size+4)) { s with heap:=h' }) :
  wpAny (model prog w) A (call (.type "zip") [.ref l1, .ref l2]) Q E s:=by
 refine callType_new F.called_zip (by decide) (F.typeCall_zip_2 _ _) (F.newCall_zip_2 _ _) (fun ob=>F.args_object_init_3 ob _ _) F.entry_zip_new (aCd b1 b2 l1 l2 xs ys) ⟨o1,o2,?g⟩
 case g=>
 have z1:(zH1 s.heap b1 l1).objs.size=s.heap.objs.size+1:=Heap.size_push ..
 have z2:(zH2 s.heap b1 b2 l1 l2).objs.size=s.heap.objs.size+2:=by rw [Heap.size_push,z1]
 have z3:(zH3 s.heap b1 b2 l1 l2).objs.size=s.heap.objs.size+3:=by rw [Heap.size_push,z2]
 have z4:(zH4 s.heap b1 b2 l1 l2).objs.size=s.heap.objs.size+4:=by rw [Heap.size_push,z3]
 have g5:(zH5 s.heap b1 b2 l1 l2).get? (zH4 s.heap b1 b2 l1 l2).objs.size=some _:=Heap.get?_push_size _ rfl
 have g4:(zH5 s.heap b1 b2 l1 l2).get? (zH3 s.heap b1 b2 l1 l2).objs.size=some _:=Heap.get?_push_of_some _ (Heap.get?_push_size _ rfl)
 have g3:(zH5 s.heap b1 b2 l1 l2).get? (zH2 s.heap b1 b2 l1 l2).objs.size=some _:=Heap.get?_push_of_some _ (Heap.get?_push_of_some _ (Heap.get?_push_size _ rfl))
 have g2:(zH5 s.heap b1 b2 l1 l2).get? (zH1 s.heap b1 l1).objs.size=some _:=Heap.get?_push_of_some _ (Heap.get?_push_of_some _ (Heap.get?_push_of_some _ (Heap.get?_push_size _ rfl)))
 have g1:(zH5 s.heap b1 b2 l1 l2).get? s.heap.objs.size=some _:=Heap.get?_push_of_some _ (Heap.get?_push_of_some _ (Heap.get?_push_of_some _ (Heap.get?_push_of_some _ (Heap.get?_push_size _ rfl))))
 rw [z2,z3,z4] at g5;rw [z1,z2] at g3;rw [z3] at g4;rw [z1] at g2
 show _∧_
 rw [z4]
 exact ⟨⟨_,g5,rfl⟩,q _ ⟨g5,g3,⟨_,_,g4⟩,⟨_,g1,rfl,rfl⟩,⟨_,g2,rfl,rfl⟩⟩ fun c o x=>Heap.get?_push_of_some _ (Heap.get?_push_of_some _ (Heap.get?_push_of_some _ (Heap.get?_push_of_some _ (Heap.get?_push_of_some _ x))))⟩
noncomputable def aEi (K:PySem.W.Frag) (ta:TA):TI:=fun σ H R=>ta σ H fun vs H1=>∃ l1 l2 b1 b2,vs=[.ref l1, .ref l2]∧(∃ xs,SqB b1 K H1 l1 xs)∧(∃ ys,SqB b2 K H1 l2 ys)∧R (Itz K b1 b2 l1 l2) H1
theorem aDf (n:Nat):ZA (n+4) (n+2) (n+3) n (n+1):=by
 constructor <;> (intro h;replace h:(_:Nat)=_:=h;omega)
theorem aBc {n l:Nat}(h:l<n):ZP (n+4) (n+3) n (n+1) l:=
 ⟨Nat.ne_of_lt (Nat.lt_of_lt_of_le h (Nat.le_add_right _ _)),Nat.ne_of_lt (Nat.lt_of_lt_of_le h (Nat.le_add_right _ _)),Nat.ne_of_lt h,Nat.ne_of_lt (Nat.lt_of_lt_of_le h (Nat.le_add_right _ _))⟩
theorem aDG:bootBuiltins "zip" = some (.type "zip"):=by decide +kernel
theorem yS:bootBuiltins "repr" = some (.builtin "repr"):=by decide +kernel
theorem aDB {X:Cx}{es:List Expr}{k:Nat}{po:Pos}{a b:Expr}{ta:TA}{p pos:Pos}(hg:Gl X "zip")(hm:X.mg "zip" = none)(ha:PA X [a,b] ta)(hs:starEach [a,b] X.env=[(false,eval a X.env),(false,eval b X.env)]:=by rfl)(hs2:starEach [b] X.env=[(false,eval b X.env)]:=by rfl) :
  PI X (.Tuple es k po) (.Call (.Name "zip" p) [a,b] [] pos) (aEi X.K ta):=by
 intro pins s σ H R I h
 refine Call_ (kJ I hg hm aDG (PyProof.Rows.callWith_type1 (thn (ha pos pins s σ H _ I h) fun us s1 ⟨vs,H1,I1,r1,q1⟩=>?g) (by rw [hs,hs2]) (by rw [hs2];rfl)))
 case g=>
 obtain ⟨l1,l2,b1,b2,e,⟨xs,q2⟩,⟨ys,q3⟩,q⟩:=q1
 subst e
 obtain ⟨u1,u2,rfl,e1,e2⟩:=aEE r1
 obtain rfl:u1=Value.ref l1:=e1
 obtain rfl:u2=Value.ref l2:=e2
 obtain ⟨x1,v1,o1,_⟩:=I1.obAt q2
 obtain ⟨x2,v2,o2,_⟩:=I1.obAt q3
 have a1:l1<s1.heap.objs.size:=let ⟨_,e,_⟩:=o1;Heap.lt_size e
 have a2:l2<s1.heap.objs.size:=let ⟨_,e,_⟩:=o2;Heap.lt_size e
 refine aAo o1 o2 fun h' zt kp=>wpAny_pyIter_zip (s:={ s1 with heap:=h' }) zt.1 ?g
 case g=>
 refine ⟨_,[s1.heap.objs.size+4,s1.heap.objs.size+2,s1.heap.objs.size+3,s1.heap.objs.size,s1.heap.objs.size+1],_,_,H1,rfl,I1.kept (t':=s1.toks) kp,aAN (aDf _) (aBc a1) (aBc a2),zt,fun b hb=>?g,q⟩
 case g=>
 have lb:s1.heap.objs.size≤b:=by
  simp only [List.mem_cons,List.not_mem_nil,or_false] at hb
  rcases hb with rfl | rfl | rfl | rfl | rfl <;> first | exact Nat.le_add_right _ _ | exact Nat.le_refl _
 exact I1.fpOk lb (I1.hok.fresh lb)
theorem wS {X:Cx}{K:PySem.W.Frag}{es:List Expr}{k:Nat}{po:Pos}{a b:Expr}{ta:TA}{p pos:Pos}(hK:X.K=K)(hg:Gl X "zip")(hm:X.mg "zip" = none)(ha:PA X [a,b] ta)(hs:starEach [a,b] X.env=[(false,eval a X.env),(false,eval b X.env)]:=by rfl)(hs2:starEach [b] X.env=[(false,eval b X.env)]:=by rfl) :
  PI X (.Tuple es k po) (.Call (.Name "zip" p) [a,b] [] pos) (aEi K ta):=by subst hK;exact aDB hg hm ha hs hs2
theorem aCz {K:PySem.W.Frag}{b1 b2:Bool}{l1 l2:Addr}{xs ys:List V}{g:TG}{tb:TS}{D:iE}{σ:St}{H:Hp}(hlen:ys.length=xs.length)(Pv:Nat→St→Hp→Prop)(h0:Pv 0 σ H)(hl:∀ i σ H,i≤xs.length→Pv i σ H→SqB b1 K H l1 xs∧SqB b2 K H l2 ys)
  (hs:∀ i x y σ H p,xs[i]?=some x→ys[i]?=some y→H p=none→Pv i σ H→g (.ref p) σ (upd H p (.tup [x,y])) fun σ2 H2=>tb { D with nx:=Pv (i+1),ct:=Pv (i+1),bk:=D.nx } σ2 H2) (hd:∀ σ H,Pv xs.length σ H→D.nx σ H) :
  fK (Itz K b1 b2 l1 l2) g tb D σ H:=by
 refine ⟨fun i m σ H=>m=xs.length - i∧i≤xs.length∧Pv i σ H,⟨xs.length,by simp,Nat.zero_le _,h0⟩,?g⟩
 case g=>
 rintro i m σ H ⟨rfl,hi,p⟩
 obtain ⟨q1,q2⟩:=hl i σ H hi p
 by_cases hlt:i<xs.length
 ·refine .inr ⟨⟨xs,ys,xs[i],ys[i]'(by omega),q1,q2,by simp [hlt],by simp [show i<ys.length by omega]⟩,Pv (i+1),fun σ' H' p'=>⟨xs.length - (i+1),by omega,rfl,hlt,p'⟩,fun v H' ⟨a,x,y,e1,e2,e3,e4,e5⟩=>?g⟩
  case g=>
  subst e1;subst e3
  exact hs i x y σ H a (e4 xs q1) (e5 ys q2) e2 p
 ·obtain rfl:i=xs.length:=by omega
  exact .inl ⟨⟨xs,ys,q1,q2, .inl (Nat.le_refl _)⟩,hd σ H p⟩
structure aFJ (mg:Str→Option Value):Prop extends Blt mg where
 zip:mg "zip" = none
 repr:mg "repr" = none
 enumerate:mg "enumerate" = none
 reversed:mg "reversed" = none
 str:mg "str" = none
end L2
namespace L2
open PySem PySem.Spec PyProof.Rows
section
variable {prog:Program}{w:World}{A:Around}{E:Value→Shared→Prop}{s:Shared}
theorem sT {sl:Addr}{t:Tok}{n:Nat}{Q:Int × Int × Nat→Shared→Prop}(hs:s.heap.IsSliceOf sl .none .none (.int (-1) t))(h:Q ((n:Int) - 1,-1,n) s):wpAny (model prog w) A (Builtin.Slice.sliceApplied (.ref sl) (pure (n:Int))) Q E s:=by
 obtain ⟨os,e1,e2,e3⟩:=id hs
 unfold Builtin.Slice.sliceApplied Builtin.Slice.sliceFields;refine wpAny_bind (wpAny_bind (wpAny_field e1 e3 (x := .none) rfl (wpAny_bind (wpAny_field e1 e3 (x := .none) rfl (wpAny_bind (wpAny_field e1 e3 (x := .int (-1) t) rfl (wpAny_pure ?g)))))))
 case g=>
 refine wpAny_bind (HT.slicePart_ (IsPart.int (-1) t) ?g)
 case g=>
 show wpAny _ _ (if ((-1:Int) == 0)=true then _ else _) _ _ s;rw [if_neg (by decide)]
 refine wpAny_bind (HT.slicePart_ IsPart.none (wpAny_bind (HT.slicePart_ IsPart.none (wpAny_bind (wpAny_pure ?g)))))
 case g=>
 have ea:Builtin.Slice.sliceAdjust none none (-1) (n:Int)=((n:Int) - 1,-1):=by
  unfold Builtin.Slice.sliceAdjust
  simp
 have ep:Builtin.Slice.slicePlaces ((n:Int) - 1) (-1) (-1)=n:=by
  unfold Builtin.Slice.slicePlaces
  rw [if_neg (by decide)]
  by_cases h0:(n:Int) - 1 > -1
  ·rw [if_pos h0];simp
  ·rw [if_neg h0];simp;omega
 show wpAny _ _ (match Builtin.Slice.sliceAdjust none none (-1) (n:Int) with | (lo,hi)=>pure (lo,(-1:Int),Builtin.Slice.slicePlaces lo hi (-1))) _ _ s
 rw [ea]
 show wpAny _ _ (pure ((n:Int) - 1,(-1:Int),Builtin.Slice.slicePlaces ((n:Int) - 1) (-1) (-1))) _ _ s
 rw [ep]
 exact wpAny_pure h
theorem aAn (us:List Value):((List.range us.length).filterMap fun (k:Nat)=>us.toArray[((us.length:Int) - 1+(k:Int)*(-1)).toNat]?)=us.reverse:=by
 have e:∀ k∈List.range us.length,us.toArray[((us.length:Int) - 1+(k:Int)*(-1)).toNat]?=us.reverse[k]?:=fun k hk=>by
  have hk':k<us.length:=List.mem_range.mp hk
  rw [List.getElem?_reverse hk',List.getElem?_toArray]
  congr 1
  omega
 have e2:∀ L:List Nat,(∀ k∈L,us.toArray[((us.length:Int) - 1+(k:Int)*(-1)).toNat]?=us.reverse[k]?)→(L.filterMap fun (k:Nat)=>us.toArray[((us.length:Int) - 1+(k:Int)*(-1)).toNat]?)=L.filterMap fun k=>us.reverse[k]?:=by
  intro L
  induction L with
  | nil=>intro _;rfl
  | cons k L ih=>
   intro h
   rw [List.filterMap_cons,List.filterMap_cons,h k (by simp),ih fun j hj=>h j (by simp [hj])]
 rw [e2 _ e]
 have hr:us.length=us.reverse.length:=(List.length_reverse).symm
 rw [hr]
 generalize us.reverse=vs
 clear e e2 hr
 induction vs with
 | nil=>rfl
 | cons v vs ih=>
  rw [List.length_cons,List.range_succ_eq_map,List.filterMap_cons,List.filterMap_map]
  show v :: _=v :: vs
  congr 1
theorem rV {t sl:Addr}{us:List Value}{tk:Tok}{Q:Value→Shared→Prop}(ht:IsTup s.heap t us.toArray)(hs:s.heap.IsSliceOf sl .none .none (.int (-1) tk))(hz:us.length≤sizeLine)
  (h:Q (.ref s.heap.objs.size) { s with heap:=s.heap.push { cls := .type "tuple",data := .seq us.reverse.toArray } }):wpAny (model prog w) A (getItem (.ref t) (.ref sl)) Q E s:=by
 obtain ⟨os,e1,e2,e3⟩:=id hs
 have hok:sizeOk (.seq us.reverse.toArray):=by show us.reverse.toArray.size≤sizeLine;rw [List.size_toArray,List.length_reverse];exact hz
 unfold getItem;try with_reducible refine wpAny_holding ?_
 first | refine wpAny_bind (wpAny_pure ?_) | skip
 refine wpAny_bind (wpAny_sequenceKey ht.typeIs (by decide) (wpAny_bind (wpAny_callSpecial?_slot (name:=Str.ofString "__getitem__") ht.typeIs PyProof.Rows.slot_tuple_getitem (wpAny_call_entry PyProof.Rows.slot_tuple_getitem ht.typeIs entry_tuple_getitem ?g (args_tuple_getitem _ _)))))
 case g=>
 show wpAny _ _ (Builtin.Tuple.tupleItemsOf (.ref t) >>= _) _ _ s;refine wpAny_bind (tupleItemsOf_ ht (wpAny_bind (wpAny_typeOf (T:="slice") ⟨os,e1,e2⟩ ?g)))
 case g=>
 rw [if_pos (by decide)];refine wpAny_bind (sT (n:=us.toArray.size) hs ?g)
 case g=>
 have no:¬ ((((us.toArray.size:Int) - 1) == 0 && (-1:Int) == 1 && us.toArray.size == us.toArray.size)=true):=by simp
 show wpAny _ _ (if (((us.toArray.size:Int) - 1) == 0 && (-1:Int) == 1 && us.toArray.size == us.toArray.size)=true then _ else _) _ _ s
 rw [if_neg no]
 rw [show ((List.range us.toArray.size).filterMap fun (k:Nat)=>us.toArray[((us.toArray.size:Int) - 1+(k:Int)*(-1)).toNat]?)=us.reverse by rw [List.size_toArray];exact aAn us]
 first
  | exact wpAny_bind (m:=Builtin.Tuple.tupleExact _) (wpAny_newObj_type (wpAny_pure ⟨_,rfl,wpAny_pure h⟩) hok)
  | exact wpAny_bind (m:=Builtin.Tuple.tupleExact _) (wpAny_newObj_type (wpAny_bind (wpAny_pure (wpAny_pure ⟨_,rfl,wpAny_pure h⟩))) hok)
  | exact wpAny_bind (wpAny_bind (m:=Builtin.Tuple.tupleExact _) (wpAny_newObj_type (wpAny_pure (wpAny_pure ⟨_,rfl,wpAny_pure h⟩)) hok))
  | exact wpAny_bind (wpAny_bind (m:=Builtin.Tuple.tupleExact _) (wpAny_newObj_type (wpAny_pure ⟨_,rfl,wpAny_pure h⟩) hok))
end
theorem Vals.rev:∀ {xs:List V} {us:List Value},Vals xs us→Vals xs.reverse us.reverse
 | _,_, .nil => .nil
 | _,_, .cons r t=>by
  rw [List.reverse_cons,List.reverse_cons]
  exact Vals.append (Vals.rev t) (.cons r .nil)
noncomputable def aCQ (K:PySem.W.Frag) (te:TE):TE:=fun σ H Q=>te σ H fun x H1=>∃ a xs,x = .ref a∧SqT K H1 a xs∧∀ p,H1 p=none→Q (.ref p) (upd H1 p (.tup xs.reverse))
theorem aEd {X:Cx}{e:Expr}{te:TE}{p1 p2 p3 pos:Pos}{k:Nat}(he:PE X e te):PE X (.Subscript e (.Slice none none (some (.UnaryOp .USub (.Constant (.int 1) k p1) p3)) p2) pos) (aCQ X.K te):=by
 intro pins s σ H Q I h
 refine Subscript_ (thn (he pins s σ H _ I h) fun v s1 ⟨x,H1,I1,r1,q1⟩=>?g)
 case g=>
 obtain ⟨a,xs,rfl,hx,q⟩:=q1
 obtain rfl:v=Value.ref a:=r1
 refine wpAny_Slice ?g
 case g=>
 rw [evalPart_none]
 refine wpAny_pure (wpAny_pure ?g)
 case g=>
 rw [evalPart_some]
 refine thn ((tD mD aK:PE X (.UnaryOp .USub (.Constant (.int 1) k p1) p3) (tUn aCy (tC (.int 1)))) pins s1 σ H1 (fun x H'=>x = .int (-1)∧H'=H1) I1 ⟨1,rfl,rfl,rfl⟩) fun u s2 ⟨y,H2,I2,r2,q2⟩=>?g
 case g=>
 obtain ⟨rfl,rfl⟩:=q2
 obtain ⟨t,rfl⟩:=r2
 obtain ⟨its,rv,pt,hz⟩:=I2.tuple hx
 have hl:=rv.length
 have I4:Inv X pins σ H2 { s2 with heap:=s2.heap.push { cls := .type "slice",data := .fields #[.none, .none, .int (-1) t] } }:=I2.kept (t':=s2.toks) fun b ob q=>Heap.get?_push_of_some _ q
 obtain ⟨its',rv',pt',_⟩:=I4.tuple hx
 have hl':=rv'.length
 show wpAny (model X.prog X.w) X.A (subscriptTail e (.Slice none none (some (.UnaryOp .USub (.Constant (.int 1) k p1) p3)) p2) (.ref a) (.ref s2.heap.objs.size)) (EP X pins σ Q) X.xe { s2 with heap:=s2.heap.push { cls := .type "slice",data := .fields #[.none, .none, .int (-1) t] } }
 refine tail_any (ops:=[.ref a, .ref s2.heap.objs.size]) pt'.typeIs PyProof.Rows.slot_tuple_getitem.lookup (rV pt' (Heap.IsSliceOf.new ..) (by omega) ?g) (by with_unfolding_all rfl)
 case g=>
 refine ⟨.ref _,_,I4.laid (t':=s2.toks) (o := .tup xs.reverse) (fun b ob q=>Heap.get?_push_of_some _ q) (Nat.le_refl _) ?g,rfl,q _ (I4.hok.fresh (Nat.le_refl _))⟩
 case g=>exact ⟨by rw [List.length_reverse];exact hz,_,Vals.rev rv',TupN.new _ _⟩
theorem wI {X:Cx}{K:PySem.W.Frag}{e:Expr}{te:TE}{p1 p2 p3 pos:Pos}{k:Nat}(hK:X.K=K)(he:PE X e te):PE X (.Subscript e (.Slice none none (some (.UnaryOp .USub (.Constant (.int 1) k p1) p3)) p2) pos) (aCQ K te):=by subst hK;exact aEd he
theorem rK {X:Cx}{K:PySem.W.Frag}{o e:Expr}{es:List Expr}{to:TE}{t:TA}{name:Str}{apos cpos:Pos}{T id:String}{r:V→List V→Hp→VK→Prop}(hK:X.K=K)(pa:PlainAttrs T)(slot:Slot T name id)(hty:typeOf (.builtin id)=pure (.type "method_descriptor"))(hm:MtM X id r)(ho:PE X o to)(ha:PA X (e :: es) t)
  (b1:attributeBase o name X.env (eval o X.env)=eval o X.env:=by rfl)
  (b2:((backTo cpos (starEach (e :: es) X.env)).all (fun x=>!x.1) && (backToKw cpos (keywordEach [] X.env)).all (fun x=>x.1.isSome) && decide ((e :: es).length+([]:List Keyword).length+(if ([]:List Keyword).isEmpty then 0 else 1)<30))=true:=by rfl)
  (b3:(apos.endLine == cpos.line)=true:=by rfl) (b4:starEach (e :: es) X.env=(false,eval e X.env) :: starEach es X.env:=by rfl) (b5:(backTo cpos (starEach es X.env)).any (·.1)=false:=by rfl) :
  PE X (.Call (.Attribute o name apos) (e :: es) [] cpos) (tBM K T r to t):=by subst hK;exact aEL pa slot hty hm ho ha b1 b2 b3 b4 b5
noncomputable def aEq:R2:=fun x y H Q=>(∃ a b,x = .bl a∧y = .bl b∧Q (.bl (a == b)) H)∨(y = .non∧Q (.bl (decide (x = .non))) H)
noncomputable def oO:R2:=fun x y H Q=>(∃ a b,x = .bl a∧y = .bl b∧Q (.bl (!(a == b))) H)∨(y = .non∧Q (.bl (!decide (x = .non))) H)
theorem aDE {X:Cx}:OpR X (compareOp .Is) aEq:=by
 refine OpR.or (fun pins s σ H x y v u Q I rx ry h=>?g) aDx
 case g=>
 obtain ⟨a,b,rfl,rfl,q⟩:=h
 obtain rfl:v=Value.bool a:=rx
 obtain rfl:u=Value.bool b:=ry
 exact wpAny_is_plain (by cases a <;> cases b <;> rfl) (tV I q (by cases a <;> cases b <;> rfl))
theorem mB {X:Cx}:OpR X (compareOp .IsNot) oO:=by
 refine OpR.or (fun pins s σ H x y v u Q I rx ry h=>?g) aCc
 case g=>
 obtain ⟨a,b,rfl,rfl,q⟩:=h
 obtain rfl:v=Value.bool a:=rx
 obtain rfl:u=Value.bool b:=ry
 exact wpAny_isNot_plain (by cases a <;> cases b <;> rfl) (tV I q (by cases a <;> cases b <;> rfl))
end L2
namespace L2
open PySem PySem.Spec PyProof.Rows
theorem qQ (l:Addr)(items:Array Value)(n:Nat)(b:Addr)(dd:Option Addr)(ss:Array (Option Value))(items2:Array Value)(n2:Nat)(hs0:¬(!items.isEmpty && Builtin.List.listTooLong (items.size+items2.size))=true)(hs1:items.size≤sizeLine)(hs2:items.size+items2.size≤sizeLine+1) :
  Meets (Builtin.«list.extend» ⟨[.ref l, .ref b],[]⟩) (fun _ R s=>s.heap.get? l=some { cls := .type "list",dict:=none,data := .seq items n,slots:=#[] }∧s.heap.get? b=some { cls := .type "tuple",dict:=dd,data := .seq items2 n2,slots:=ss }∧R (.ok (.ret Value.none)) { s with heap:=s.heap.update l (Obj.mapSeq fun x=>x++items2),toks:=s.toks }):=
 .of_wp fun prog w A R s h=>by
  obtain ⟨s1,s2,s3,s4,s5⟩:=s
  obtain ⟨gl,gb,h⟩:=h
  have f2:=AutoSeq1.sub_tuple_tuple
  have f3:=AutoSeq1.sub_list_list
  have f4:=AutoSeq1.sub_tuple_list
  have f5:=AutoSeq1.sub_list_tuple
  have gz:(items++items2).size≤sizeLine+1:=by rw [Array.size_append];exact hs2
  wp_walk using (wpAny_updateSeq gl rfl (hz:=hs1) (_hz':=gz)),AutoSeq1.wpAny_loadPart' gl,AutoSeq1.wpAny_loadPart' gb
  exact ⟨_,rfl,h⟩
noncomputable def uI (K:PySem.W.Frag):V→List V→Hp→VK→Prop:=fun x vs H Q=>∃ l b xs zs,x = .ref l∧vs=[.ref b]∧H l=some (.lst xs)∧SqT K H b zs∧xs.length+zs.length≤sizeLine∧Q .non (upd H l (.lst (xs++zs)))
theorem vO {X:Cx}{K:PySem.W.Frag}(hK:X.K=K):MtM X "list.extend" (uI K):=by
 subst hK
 intro pins s σ H x vs v us Q I rx rv h
 obtain ⟨l,b,xs,zs,rfl,rfl,hH,hB,hz,q⟩:=h
 cases rx
 obtain ⟨u,rfl,ru⟩:=rv.one
 cases ru
 obtain ⟨z,its,n,r,hl,e⟩:=I.lstM hH
 obtain ⟨its2,r2,⟨o,e2,hc,n2,hd⟩,z2⟩:=I.tuple hB
 obtain ⟨oc,od,odt,osl⟩:=o
 subst hc hd
 have hl2:=r2.length
 have hsz:its.toArray.size+its2.toArray.size≤sizeLine:=by rw [List.size_toArray,List.size_toArray];omega
 have hlong:¬ (!its.toArray.isEmpty && Builtin.List.listTooLong (its.toArray.size+its2.toArray.size))=true:=by
  rw [pF hsz,Bool.and_false]
  exact Bool.false_ne_true
 refine call_meets F.slot_list_extend ⟨_,e,rfl⟩ F.entry_list_extend (F.args_list_extend_2 _ _)
  (qQ l its.toArray n b od osl its2.toArray n2 hlong (by rw [List.size_toArray];omega) (by omega)) ⟨e,e2,?_⟩
 refine ⟨.non,_,I.lset (its':=its++its2) hH e (by simp) (r.append r2) ?_,rfl,q⟩
 rw [List.length_append]
 omega
noncomputable abbrev pS (K:PySem.W.Frag):V→List V→Hp→VK→Prop:=fun x vs H Q=>wF x vs H Q∨uI K x vs H Q
theorem vM {X:Cx}{K:PySem.W.Frag}(hK:X.K=K):MtM X "list.extend" (pS K):=by
 intro pins s σ H x vs v us Q I rx rv h
 rcases h with h | h
 ·exact xB pins s σ H x vs v us Q I rx rv h
 ·exact vO hK pins s σ H x vs v us Q I rx rv h
end L2
namespace L2
open PySem
noncomputable def bX (p:Nat):V := .int (p:Int)
theorem oV (ps:List Nat):ps.map bX=(ps.map fun p:Nat=>(p:Int)).map V.int:=by rw [List.map_map];rfl
theorem jP {c:Bool}{A B:Prop}(e:c=true)(h:A):if c=true then A else B:=by rw [if_pos e];exact h
theorem eM {c:Bool}{A B:Prop}(e:c=false)(h:B):if c=true then A else B:=by subst e;exact aDA h
theorem sN {K:PySem.W.Frag}{H:Hp}{a l:Addr}{xs ys:List V}{o:HO}(h:SqT K H a xs)(hl:H l=some (.lst ys)):SqT K (upd H l o) a xs:=by
 have key:∀ u,H a=some u→(∀ zs,u ≠ .lst zs)→upd H l o a=some u:=fun u e n=>by
  rw [aP]
  ·exact e
  ·intro z
   rw [z,hl] at e
   cases e
   exact n _ rfl
 rcases h with (h | ⟨u,h⟩) | h
 ·exact .inl (.inl (key _ h fun _ z=>by cases z))
 ·exact .inl (.inr ⟨u,key _ h fun _ z=>by cases z⟩)
 ·exact .inr h
theorem vL {fs ls:List Nat}{k:Nat}(hk:k<ls.length):((fs++[ls[k]])++ls.eraseIdx k).Perm (fs++ls):=by
 rw [List.append_assoc]
 refine List.Perm.append_left _ ?_
 have e:ls=ls.take k++ls[k] :: ls.drop (k+1):=by simp
 have e2:ls.eraseIdx k=ls.take k++ls.drop (k+1):=List.eraseIdx_eq_take_drop_succ _ _
 rw [e2]
 refine List.Perm.trans ?_ (List.Perm.of_eq e.symm)
 show (ls[k] :: (ls.take k++ls.drop (k+1))).Perm _
 exact List.perm_middle.symm
theorem aED {k n:Nat}(h:k<n):seqIndex? (k:Int) n=some k:=by
 have e:seqIndex? (k:Int) n=if (decide (0≤(if (k:Int)<0 then (k:Int)+(n:Int) else (k:Int))) && decide ((if (k:Int)<0 then (k:Int)+(n:Int) else (k:Int))<(n:Int)))=true then some (if (k:Int)<0 then (k:Int)+(n:Int) else (k:Int)).toNat else none:=rfl
 rw [e]
 simp only [show ¬ (k:Int)<0 by omega,if_false]
 rw [if_pos (by simp;omega)]
 rfl
theorem qK {α β:Type}(f:α→β):∀ (l:List α) (k:Nat),(l.map f).eraseIdx k=(l.eraseIdx k).map f
 | [],_=>rfl
 | _ :: _,0=>rfl
 | a :: l,k+1=>by
  show f a :: (l.map f).eraseIdx k=f a :: (l.eraseIdx k).map f
  rw [qK f l k]
section
variable {K:PySem.W.Frag}{H:Hp}
theorem xS {xs:List V}{v:V}(hj:xs[xs.length - 1]?=some v):atI xs (-1)=some v:=by
 have hl:xs.length - 1<xs.length:=(List.getElem?_eq_some_iff.mp hj).1
 unfold atI ixN
 rw [if_neg (by decide),if_pos (by omega),show ((-1:Int)+(xs.length:Int)).toNat=xs.length - 1 by omega]
 exact hj
theorem uN {p:Addr}{xs:List V}{v:V}{Q:VK}(h:SqT K H p xs)(hj:xs[xs.length - 1]?=some v)(q:Q v H):cQ K (.ref p) (.int (-1)) H Q := .inr ⟨p,xs,-1,v,rfl,rfl,h,xS hj,q⟩
theorem iR {p:Addr}{xs:List V}{v:V}{Q:VK}(h:SqL K H p xs)(hj:xs[xs.length - 1]?=some v)(q:Q v H):cQ K (.ref p) (.int (-1)) H Q := .inl ⟨p,xs,-1,v,rfl,rfl,h,xS hj,q⟩
end
theorem zH {c:Int}{n:Nat}(h:1≤n):∃ k:Nat,c % (n:Int)=(k:Int)∧k<n:=by
 have g0:=Int.emod_nonneg c (show (n:Int)≠0 by omega)
 have g1:=Int.emod_lt_of_pos c (show (0:Int)<(n:Int) by omega)
 obtain ⟨k,hk⟩:=Int.eq_ofNat_of_zero_le g0
 exact ⟨k,hk,by omega⟩
theorem aEF {ps:List Nat}{i:Nat}(h:i<ps.length):(ps.map bX)[i]?=some (bX (ps.getD i 0)):=by
 rw [List.getElem?_map,List.getD_eq_getElem?_getD,List.getElem?_eq_getElem h]
 rfl
noncomputable def Rows (K:PySem.W.Frag) (H:Hp) (xs:List V) (T:List (List Int)):Prop:=xs.length=T.length∧∀ (i:Nat) (row:List Int),T[i]?=some row→∃ b,xs[i]?=some (.ref b)∧SqT K H b (row.map V.int)
section
variable {K:PySem.W.Frag}{H H':Hp}{xs:List V}{T:List (List Int)}
theorem Rows.map (h:Rows K H xs T)(f:∀ b row,SqT K H b row→SqT K H' b row):Rows K H' xs T:=⟨h.1,fun i row e=>by
 obtain ⟨b,e1,e2⟩:=h.2 i row e
 exact ⟨b,e1,f _ _ e2⟩⟩
theorem Rows.same (h:Rows K H xs T)(e:Same H H'):Rows K H' xs T:=h.map fun _ _ s=>e.tup s
theorem Rows.put (h:Rows K H xs T){l:Addr}{ys:List V}{o:HO}(hl:H l=some (.lst ys)):Rows K (upd H l o) xs T:=h.map fun _ _ s=>sN s hl
theorem Rows.nil:Rows K H [] []:=⟨rfl,fun i row e=>by cases e⟩
theorem Rows.snoc (h:Rows K H xs T){b:Addr}{r:List Int}(hb:SqT K H b (r.map V.int)):Rows K H (xs++[.ref b]) (T++[r]):=by
 refine ⟨by rw [List.length_append,List.length_append,h.1];rfl,fun i row e=>?_⟩
 by_cases hi:i<T.length
 ·rw [List.getElem?_append_left hi] at e
  obtain ⟨b',e1,e2⟩:=h.2 i row e
  exact ⟨b',by rw [List.getElem?_append_left (by rw [h.1];exact hi)];exact e1,e2⟩
 ·rw [List.getElem?_append_right (by omega)] at e
  have:i - T.length=0:=by
   rcases hk:i - T.length with _ | k
   ·rfl
   ·rw [hk] at e;cases e
  rw [this] at e
  cases e
  exact ⟨b,by rw [List.getElem?_append_right (by rw [h.1];omega),h.1,this];rfl,hb⟩
theorem Rows.sh (h:Rows K H xs T){l:Addr}(hl:SqL K H l xs):Sh K H (.lst (T.map fun r=>Dt.tup (r.map Dt.int))) (.ref l):=⟨l,xs,rfl,hl,ShL.of_rows h.1 h.2⟩
end
theorem rF (T:List (List Int)):dep (.lst (T.map fun r=>Dt.tup (r.map Dt.int)))≤100:=by
 have hi:∀ r:List Int,jZ (r.map Dt.int)=0:=fun r=>by
  induction r with
  | nil=>rfl
  | cons a r ih=>rw [List.map_cons,jZ,ih];rfl
 have:∀ T:List (List Int),jZ (T.map fun r=>Dt.tup (r.map Dt.int))≤1:=fun T=>by
  induction T with
  | nil=>decide
  | cons r T ih=>rw [List.map_cons,jZ,dep,hi];omega
 have:=this T
 rw [dep]
 omega
end L2
namespace L2
open PySem PySem.Spec PyProof.Rows
section
variable {prog:Program}{w:World}{A:Around}{E:Value→Shared→Prop}{s:Shared}
end
end L2
namespace L2
open PySem
section
variable {X:Cx}{es:List Expr}{te:TE}{t:TA}
theorem bF {c:Const}{k:Nat}{p:Pos}(ha:PE X (.Constant c k p) te)(hr:PA X es t):PA X (.Constant c k p :: es) (aB te t):=cP ha hr
theorem aA {n:Str}{p:Pos}(ha:PE X (.Name n p) te)(hr:PA X es t):PA X (.Name n p :: es) (aB te t):=cP ha hr
theorem aAG {l:List Expr}{p:Pos}(ha:PE X (.List l p) te)(hr:PA X es t):PA X (.List l p :: es) (aB te t):=cP ha hr
theorem aAx {l:List Expr}{k:Nat}{p:Pos}(ha:PE X (.Tuple l k p) te)(hr:PA X es t):PA X (.Tuple l k p :: es) (aB te t):=cP ha hr
theorem fJ {a b:Expr}{o:Operator}{p:Pos}(ha:PE X (.BinOp a o b p) te)(hr:PA X es t):PA X (.BinOp a o b p :: es) (aB te t):=cP ha hr
theorem cI {a b:Expr}{p:Pos}(ha:PE X (.Subscript a b p) te)(hr:PA X es t):PA X (.Subscript a b p :: es) (aB te t):=cP ha hr
theorem bI {a:Expr}{l:List Expr}{kw:List Keyword}{p:Pos}(ha:PE X (.Call a l kw p) te)(hr:PA X es t):PA X (.Call a l kw p :: es) (aB te t):=cP ha hr
end
end L2
namespace L2
open PySem
mutual
noncomputable def aEu:Dt→Bool
 | .tup ds=>decide (ds.length<64) && aCE ds
 | .lst ds=>aCE ds
 | _=>true
noncomputable def aCE:List Dt→Bool
 | []=>true
 | d :: ds=>aEu d && aCE ds
end
noncomputable def okM (m e:Nat) (d:Dt):Prop:=(toP d).showable=true∧(toP d).leavesShort 1930=true∧(toP d).bulk≤m∧dep d≤e∧aEu d=true
noncomputable def Am (K:PySem.W.Frag) (H:Hp) (m e:Nat) (x:V):Prop:=∃ d,Sh K H d x∧okM m e d
noncomputable def Goo (K:PySem.W.Frag) (H:Hp) (v:V):Prop:=∃ d,Sh K H d v∧okR d∧aEu d=true
section
variable {K:PySem.W.Frag}{H H':Hp}
theorem Am.same {m e:Nat}{x:V}(s:Same H H'):Am K H m e x→Am K H' m e x:=fun ⟨d,h,o⟩=>⟨d,h.same s,o⟩
theorem Goo.same {v:V}(s:Same H H'):Goo K H v→Goo K H' v:=fun ⟨d,h,o⟩=>⟨d,h.same s,o⟩
theorem aDe:(10:Nat) ^ 40<2 ^ 1920:=by decide +kernel
theorem aDM {i:Int}(h:i.natAbs<10 ^ 40):Am K H 0 0 (.int i):=by
 refine ⟨.int i,rfl,?_,?_,Nat.le_refl _,Nat.le_refl _,by unfold aEu;rfl⟩
 ·show decide (i.natAbs.log2<1920)=true
  refine decide_eq_true ?_
  by_cases h0:i.natAbs=0
  ·rw [h0];decide
  ·exact (Nat.log2_lt h0).mpr (Nat.lt_trans h aDe)
 ·show decide ((PyData.shown (.int i)).length≤1930)=true
  refine decide_eq_true ?_
  have e:(Str.ofString (toString i)).length≤41:=by
   rw [ofString_length]
   exact int_text_length_le10 (k:=40) (by decide) h
  exact Nat.le_trans (show (PyData.shown (.int i)).length≤41 from e) (by decide)
noncomputable def Tu (K:PySem.W.Frag) (H:Hp) (m e k:Nat) (v:V):Prop:=∃ a xs,v = .ref a∧SqT K H a xs∧xs.length≤k∧∀ x∈xs,Am K H m e x
theorem Tu.same {m e k:Nat}{v:V}(s:Same H H'):Tu K H m e k v→Tu K H' m e k v:=fun ⟨a,xs,h1,h2,h3,h4⟩=>⟨a,xs,h1,s.tup h2,h3,fun x hx=>(h4 x hx).same s⟩
end
theorem tW {c:Int}{n k:Nat}{H:Hp}{Q:VK}(h:1≤n)(e:c % (n:Int)=(k:Int))(q:Q (.int (k:Int)) H):vS (.int c) (.int (n:Int)) H Q:=⟨_,_,rfl,rfl,by omega,by show Q (.int (c % (n:Int))) H;rw [e];exact q⟩
end L2
namespace L2
open PySem PySem.Spec PyProof.Rows
inductive nR:List (Value × Value)→List (Int × Int)→Prop
 | nil:nR [] []
 | cons (a b:Int) (t u:Tok) {r:List (Value × Value)} {zs:List (Int × Int)}:nR r zs→nR ((.int a t, .int b u) :: r) ((a,b) :: zs)
noncomputable def zR (f:Bool):List (Int × Int)→Bool
 | []=>f
 | (a,b) :: r=>if a=b then zR f r else decide (a<b)
theorem zA {prog:Program}{w:World}{A:Around}{E:Value→Shared→Prop}{s:Shared}{a b:Int}{t u:Tok}{Q:Value→Shared→Prop}(h:Q (.bool (decide (a<b))) s):wpAny (model prog w) A (richCompare .Lt (.int a t) (.int b u)) Q E s:=lt_int h
theorem yE (l b:Addr)(us vs:Array Value)(n n2:Nat)(dd dd2:Option Addr)(sl sl2:Array (Option Value))(zs:List (Int × Int))(hz:nR (us.toList.zip vs.toList) zs) :
  Meets (Builtin.«tuple.__lt__» ⟨[.ref l, .ref b],[]⟩)
   (fun _ R s=>s.heap.get? l=some { cls := .type "tuple",dict:=dd,data := .seq us n,slots:=sl }∧s.heap.get? b=some { cls := .type "tuple",dict:=dd2,data := .seq vs n2,slots:=sl2 }∧R (.ok (.ret (.bool (zR (decide (us.size<vs.size)) zs)))) s):=
 .of_wp fun prog w A R s h=>by
  obtain ⟨s1,s2,s3,s4,s5⟩:=s
  obtain ⟨gl,gb,h⟩:=h
  have f2:=AutoSeq1.sub_tuple_tuple
  wp_walk using AutoSeq1.wpAny_loadPart' gl,AutoSeq1.wpAny_loadPart' gb,wpAny_forIn_list _ (fun rest b s'=>b.1=none∧s'=⟨s1,s2,s3,s4,s5⟩∧∃ ys,nR rest ys∧R (.ok (.ret (.bool (zR (decide (us.size<vs.size)) ys)))) ⟨s1,s2,s3,s4,s5⟩) _
  case turn=>
   rintro ⟨y,x⟩ rest b s' ⟨hb',rfl,ys,hy,hR⟩
   cases hy with
   | cons p q t u hr=>
    refine wpAny_bind (wpAny_eqBool_int ?_)
    by_cases e:p=q
    ·rw [show (p == q)=true by simpa using e]
     rw [zR,if_pos e] at hR
     wp_walk
     exact ⟨rfl,rfl,_,hr,hR⟩
    ·rw [show (p == q)=false by simpa using e]
     rw [zR,if_neg e] at hR
     wp_walk using zA
     exact ⟨_,rfl,hR⟩
  case fin=>
   rintro ⟨b1,b2⟩ s' ⟨hb',rfl,ys,hy,hR⟩
   simp only at hb'
   subst hb'
   cases hy
   wp_walk
   exact ⟨_,rfl,hR⟩
  case h=>
   exact ⟨rfl,rfl,zs,hz,h⟩
section
variable {prog:Program}{w:World}{A:Around}{R:Result→Shared→Prop}{It:Addr}{fp wr:List Addr}{n:Nat}{P:Nat→Value→Prop}{St:Nat→Heap→Prop}
noncomputable def aEC (prog:Program) (w:World) (A:Around) (kp:Heap→Prop) (P:Nat→Value→Prop) (bt:Nat→Nat→Bool):Prop:=
 ∀ i j x y (s:Shared) (Q:Value→Shared→Prop) (E:Value→Shared→Prop),kp s.heap→P i x→P j y→Q (.bool (bt i j)) s→wpAny (model prog w) A (richCompare .Lt x y) Q E s
noncomputable def Kp (kp:Heap→Prop) (wr:List Addr) (z:Addr):Prop:=∀ h h',kp h→(∀ b o,b∉wr→b≠z→h.get? b=some o→h'.get? b=some o)→kp h'
theorem aBe (W:Walks prog w A.in1 It fp wr n P St)(bt:Nat→Nat→Bool){kp:Heap→Prop}(z:Addr)(hz:z∉fp)(kk:Kp kp wr z)(hc:aEC prog w A.in1 kp P bt) :
  ∀ (k j:Nat) (s:Shared) (x:Value) (c:Nat),n - (j+1)=k→j+1≤n→kp s.heap→St (j+1) s.heap→P (argBest bt j) x→s.heap.get? z=some { cls := .type "list",dict:=none,data := .seq #[x,x] c,slots:=#[] } →
  (∀ v h' tk,P (argBest bt (n - 1)) v→(∀ b o,b∉wr→b≠z→s.heap.get? b=some o→h'.get? b=some o)→R (.ok (.ret v)) { s with heap:=h',toks:=tk }) →
  codeAny (model prog w) A (.builtin "min.loop" ⟨[.ref It, .none, .ref z],[]⟩) R s:=by
 have zw:z∉wr:=fun h=>hz (W.sub _ h)
 have nm:(toString "min" ++ toString ".loop" : String)="min.loop":=by decide
 intro k
 induction k with
 | zero=>
  intro j s x c hk hj kp0 st px gz hR
  have en:j+1=n:=by omega
  refine codeAny_builtin F.entry_min_loop ?g
  case g=>
  rw [Around.under_plainId F.plain_min_loop _];show wpAny _ A.in1 (seqItems? (.ref z) >>= _) _ _ s;refine wpAny_bind (wpAny_seqItems gz rfl ?g)
  case g=>
  show wpAny _ A.in1 (tryCatch (pyNext (.ref It)) _ >>= _) _ _ s;refine wpAny_bind (wpAny_tryCatch (W.done s _ _ (en ▸ st) fun h' tk kh=>?g))
  case g=>
  show wpAny _ A.in1 (updateSeq z (fun _=>#[]) >>= _) _ _ _;refine wpAny_bind (wpAny_updateSeq (kh z _ zw gz) rfl (wpAny_bind (wpAny_letGo (wpAny_pure ?g))))
  case g=>
  exact hR x _ tk (by rw [← en];exact px) fun b o bw bz e=>(Heap.get?_update_other _ _ (Ne.symm bz)).trans (kh b o bw e)
 | succ k ih=>
  intro j s x c hk hj kp0 st px gz hR
  have lt:j+1<n:=by omega
  refine codeAny_builtin F.entry_min_loop ?g
  case g=>
  rw [Around.under_plainId F.plain_min_loop _];show wpAny _ A.in1 (seqItems? (.ref z) >>= _) _ _ s;refine wpAny_bind (wpAny_seqItems gz rfl ?g)
  case g=>
  show wpAny _ A.in1 (tryCatch (pyNext (.ref It)) _ >>= _) _ _ s;refine wpAny_bind (wpAny_tryCatch (W.item (j+1) s _ _ lt st fun v h' tk pv st' kh=>?g))
  case g=>
  have gz':=kh z _ zw gz
  have kp1:kp h':=kk _ _ kp0 fun b o bw _ e=>kh b o bw e
  show wpAny _ A.in1 (tryCatch (holding [v,v] (richCompare .Lt v x >>= _)) _ >>= _) _ _ _;refine wpAny_bind (wpAny_tryCatch (wpAny_holding (wpAny_bind (hc (j+1) (argBest bt j) v x _ _ _ kp1 pv px ?g))))
  case g=>
  refine wpAny_bind (wpAny_holding (wpAny_truthy_bool (wpAny_bind (wpAny_letGo (wpAny_pure ?g)))))
  case g=>
  cases hb:bt (j+1) (argBest bt j) with
  | true=>
   simp only [if_true];refine wpAny_bind (wpAny_updateSeq gz' rfl (wpAny_bind (wpAny_letGo ?g)))
   case g=>
   have up:∀ b o,b≠z→h'.get? b=some o→(h'.update z (Obj.mapSeq fun _=>#[v,v])).get? b=some o:=fun b o bz e=>(Heap.get?_update_other _ _ (Ne.symm bz)).trans e
   rw [nm];refine wpAny_pure ⟨plainId_quiet F.plain_min_loop _,ih (j+1) _ v _ (by omega) lt (kk _ _ kp1 fun b o _ bz e=>up b o bz e) (W.frame _ _ _ st' fun b bf o e=>up b o (fun q=>hz (by rw [← q];exact bf)) e) (by simp only [argBest,hb,if_true];exact pv) (Heap.get?_update_self _ gz' rfl) fun v' h2 tk2 pv' kh2=>?g⟩
   case g=>
   exact hR v' h2 tk2 pv' fun b o bw bz e=>kh2 b o bw bz (up b o bz (kh b o bw e))
  | false=>
   simp only [Bool.false_eq_true,if_false];refine wpAny_bind (wpAny_letGo ?g)
   case g=>
   rw [nm];refine wpAny_pure ⟨plainId_quiet F.plain_min_loop _,ih (j+1) _ x c (by omega) lt kp1 st' (by simp only [argBest,hb,Bool.false_eq_true,if_false];exact px) gz' fun v' h2 tk2 pv' kh2=>?g⟩
   case g=>
   exact hR v' h2 tk2 pv' fun b o bw bz e=>kh2 b o bw bz (kh b o bw e)
theorem aFH (W:Walks prog w A.in1 It fp wr n P St)(bt:Nat→Nat→Bool){kp:Heap→Prop}(z:Addr)(hz:z∉fp)(kk:Kp kp wr z)(hc:aEC prog w A.in1 kp P bt)(hn:0<n){s:Shared}{c:Nat}(kp0:kp s.heap)(st:St 0 s.heap)(gz:s.heap.get? z=some { cls := .type "list",dict:=none,data := .seq #[] c,slots:=#[] })
  (hR:∀ v h' tk,P (argBest bt (n - 1)) v→(∀ b o,b∉wr→b≠z→s.heap.get? b=some o→h'.get? b=some o)→R (.ok (.ret v)) { s with heap:=h',toks:=tk }) :
  codeAny (model prog w) A (.builtin "min.loop" ⟨[.ref It, .none, .ref z],[]⟩) R s:=by
 have zw:z∉wr:=fun h=>hz (W.sub _ h)
 have nm:(toString "min" ++ toString ".loop" : String)="min.loop":=by decide
 refine codeAny_builtin F.entry_min_loop ?g
 case g=>
 rw [Around.under_plainId F.plain_min_loop _];show wpAny _ A.in1 (seqItems? (.ref z) >>= _) _ _ s;refine wpAny_bind (wpAny_seqItems gz rfl ?g)
 case g=>
 show wpAny _ A.in1 (tryCatch (pyNext (.ref It)) _ >>= _) _ _ s;refine wpAny_bind (wpAny_tryCatch (W.item 0 s _ _ hn st fun v h' tk pv st' kh=>?g))
 case g=>
 have gz':=kh z _ zw gz
 have kp1:kp h':=kk _ _ kp0 fun b o bw _ e=>kh b o bw e
 have up:∀ b o,b≠z→h'.get? b=some o→(h'.update z (Obj.mapSeq fun _=>#[v,v])).get? b=some o:=fun b o bz e=>(Heap.get?_update_other _ _ (Ne.symm bz)).trans e
 show wpAny _ A.in1 (updateSeq z (fun _=>#[v,v]) >>= _) _ _ _;refine wpAny_bind (wpAny_updateSeq gz' rfl ?g)
 case g=>
 rw [nm];refine wpAny_pure ⟨plainId_quiet F.plain_min_loop _,aBe W bt z hz kk hc _ 0 _ v _ rfl hn (kk _ _ kp1 fun b o _ bz e=>up b o bz e) (W.frame _ _ _ st' fun b bf o e=>up b o (fun q=>hz (by rw [← q];exact bf)) e) pv (Heap.get?_update_self _ gz' rfl) fun v' h2 tk2 pv' kh2=>?g⟩
 case g=>
 exact hR v' h2 tk2 pv' fun b o bw bz e=>kh2 b o bw bz (up b o bz (kh b o bw e))
end
section
variable {prog:Program}{w:World}{A:Around}{E:Value→Shared→Prop}{s:Shared}
theorem vK {x:Value}{Q:Value→Shared→Prop}
  (h:wpAny (model prog w) A.in1 (pyIter x) (fun it s₂=>∃ It fp wr n P St bt,∃ kp:Heap→Prop,it = .ref It∧Walks prog w A.in1 It fp wr n P St∧St 0 s₂.heap∧(∀ b∈fp,b<s₂.heap.objs.size)∧0<n∧kp s₂.heap∧(∀ z,s₂.heap.objs.size≤z→Kp kp wr z)∧aEC prog w A.in1 kp P bt ∧
   ∀ v h' tk,P (argBest bt (n - 1)) v→(∀ b o,b∉wr→s₂.heap.get? b=some o→h'.get? b=some o)→Q v { s₂ with heap:=h',toks:=tk }) E s) :
  wpAny (model prog w) A (call (.builtin "min") [x]) Q E s:=by
 have nm:(toString "min" ++ toString ".loop" : String)="min.loop":=by decide
 refine call_function_tree F.kind_min F.plain_min F.entry_min (F.args_min1 _) ?g
 case g=>
 show wpAny _ A.in1 (Builtin.Builtins.bindParams "min" ["key","default"] 0 ⟨[],[]⟩ >>= _) _ _ s;refine wpAny_bind (wpAny_of_eq (show Builtin.Builtins.bindParams "min" ["key","default"] 0 ⟨[],[]⟩=pure [none,none] from rfl) (wpAny_bind (wpAny_pure (wpAny_bind (wpAny_mono h (fun it s2 h2=>?g) fun _ _ e=>e)))))
 case g=>
 obtain ⟨It,fp,wr,n,P,St,bt,kp,rfl,W,st,hf,hn,kp0,kk,hc,hQ⟩:=h2
 refine wpAny_bind (wpAny_newObj_type ?g)
 case g=>
 have zf:s2.heap.objs.size∉fp:=fun m=>Nat.lt_irrefl _ (hf _ m)
 have kz:=kk s2.heap.objs.size (Nat.le_refl _)
 rw [nm];refine wpAny_pure ⟨plainId_quiet F.plain_min_loop _,aFH W bt s2.heap.objs.size zf kz hc hn (kz _ _ kp0 fun b o _ _ e=>Heap.get?_push_of_some _ e) (W.frame _ _ _ st fun b _ o e=>Heap.get?_push_of_some _ e) (Heap.get?_push_size _ rfl) fun v h' tk pv kh=>?g⟩
 case g=>
 exact hQ v h' tk pv fun b o bw e=>kh b o bw (Nat.ne_of_lt (Heap.lt_size e)) (Heap.get?_push_of_some _ e)
end
end L2
namespace L2
open PySem PySem.Spec PyProof.Rows
noncomputable def nH:List Int→List Int→Bool
 | [],[]=>false
 | [],_ :: _=>true
 | _ :: _,[]=>false
 | a :: r,b :: q=>if a=b then nH r q else decide (a<b)
theorem wB:∀ (ns ms:List Int),zR (decide (ns.length<ms.length)) (ns.zip ms)=nH ns ms
 | [],[]=>rfl
 | [],m :: ms=>by simp [zR,nH]
 | n :: ns,[]=>by simp [zR,nH]
 | n :: ns,m :: ms=>by
  rw [List.zip_cons_cons,zR,nH,← wB ns ms]
  have:decide ((n :: ns).length<(m :: ms).length)=decide (ns.length<ms.length):=by
   by_cases h:ns.length<ms.length <;> simp [h]
  rw [this]
theorem tP:∀ ns:List Int,nH ns ns=false
 | []=>rfl
 | n :: ns=>by rw [nH,if_pos rfl];exact tP ns
theorem oI:∀ {a b c:List Int},nH a b=true→nH b c=true→nH a c=true
 | [],[],_,h,_=>by cases h
 | [],_ :: _,[],_,h=>by cases h
 | [],_ :: _,_ :: _,_,_=>rfl
 | _ :: _,[],_,h,_=>by cases h
 | _ :: _,_ :: _,[],_,h=>by cases h
 | x :: a,y :: b,z :: c,h1,h2=>by
  rw [nH] at h1 h2 ⊢
  by_cases e1:x=y <;> by_cases e2:y=z
  ·subst e1 e2
   rw [if_pos rfl] at h1 h2 ⊢
   exact oI h1 h2
  ·subst e1
   rw [if_neg e2] at h2 ⊢
   exact h2
  ·subst e2
   rw [if_neg e1] at h1 ⊢
   exact h1
  ·rw [if_neg e1] at h1
   rw [if_neg e2] at h2
   have g1:=of_decide_eq_true h1
   have g2:=of_decide_eq_true h2
   rw [if_neg (by omega)]
   exact decide_eq_true (by omega)
theorem iD {bt:Nat→Nat→Bool}(irr:∀ i,bt i i=false)(tr:∀ i j k,bt i j=true→bt j k=true→bt i k=true):∀ k j,j≤k→bt j (argBest bt k)=false
 | 0,j,h=>by
  obtain rfl:j=0:=by omega
  exact irr 0
 | k+1,j,h=>by
  unfold argBest
  by_cases c:bt (k+1) (argBest bt k)=true
  ·rw [if_pos c]
   by_cases e:j=k+1
   ·subst e;exact irr _
   ·refine Bool.eq_false_iff.mpr fun q=>?_
    have:=iD irr tr k j (by omega)
    rw [tr _ _ _ q c] at this
    cases this
  ·rw [if_neg c]
   by_cases e:j=k+1
   ·subst e;simpa using c
   ·exact iD irr tr k j (by omega)
theorem aBx:∀ {ns ms:List Int} {us vs:List Value},IntsAre us ns→IntsAre vs ms→nR (us.zip vs) (ns.zip ms)
 | [],_,_,_,h,_=>by cases h;exact .nil
 | _ :: _,[],_,_,h,g=>by cases g;cases h;exact .nil
 | n :: ns,m :: ms,_,_,h,g=>by
  cases h with
  | cons _ t h=>
   cases g with
   | cons _ u g=>exact .cons n m t u (aBx h g)
theorem aCv {prog:Program}{w:World}{A:Around}{E:Value→Shared→Prop}{s:Shared}{a b:Addr}{us vs:List Value}{ns ms:List Int}{Q:Value→Shared→Prop}(hu:A.units<cLine)(ha:IsTup s.heap a us.toArray)(hb:IsTup s.heap b vs.toArray)(h1:IntsAre us ns)(h2:IntsAre vs ms)(q:Q (.bool (nH ns ms)) s) :
  wpAny (model prog w) A (richCompare .Lt (.ref a) (.ref b)) Q E s:=by
 obtain ⟨⟨oc,od,odt,osl⟩,e1,c1,n1,d1⟩:=ha
 obtain ⟨⟨pc,pd,pdt,psl⟩,e2,c2,n2,d2⟩:=hb
 subst c1 d1 c2 d2
 refine richCompare_meets_room (op := .Lt) ⟨_,e1,rfl⟩ ⟨_,e2,rfl⟩ F.slot_tuple_lt F.entry_tuple_lt (F.args_tuple_lt_2 _ _) (yE a b us.toArray vs.toArray n1 n2 od pd osl psl (ns.zip ms) (aBx h1 h2)) ⟨e1,e2,?g⟩ hu
 case g=>
 have l1:=IntsAre.len h1
 have l2:=IntsAre.len h2
 rw [List.size_toArray,List.size_toArray,l1,l2,wB]
 exact ⟨fun z=>(by cases z),q⟩
noncomputable def aBX (K:PySem.W.Frag):List V→Hp→VK→Prop:=fun vs H Q=>∃ (a:Addr) (xs:List V) (T:List (List Int)),vs=[.ref a]∧Sq K H a xs∧Rows K H xs T∧T≠[]∧∀ (i:Nat) (b:Addr) (row:List Int),xs[i]?=some (.ref b)→T[i]?=some row→SqT K H b (row.map V.int)→(∀ r∈T,nH r row=false)→Q (.ref b) H
theorem yY {X:Cx}{k:Nat}(hr:Room k X.A)(hc:X.calm=true):CallR X (.builtin "min") (aBX X.K):=by
 intro pins s σ H vs us Q I r ⟨a,xs,T,e,hq,hR,hne,q⟩
 subst e
 obtain ⟨u,rfl,ru⟩:=r.one
 obtain rfl:u=Value.ref a:=ru
 refine vK (kX (I.ok.hd hc) I hq fun its It fp wr S s2 rv hz W st hf hI=>?g)
 case g=>
 have hl:its.length=T.length:=by rw [← rv.length,hR.1]
 have hpos:0<T.length:=List.length_pos_iff.mpr hne
 have item:∀ (i:Nat) (v:Value),its[i]?=some v→∃ b row,v = .ref b∧T[i]?=some row∧xs[i]?=some (.ref b)∧SqT X.K H b (row.map V.int):=fun i v hv=>by
  obtain ⟨x,hx,rx⟩:=rv.getR hv
  have hi:i<T.length:=by rw [← hR.1];exact (List.getElem?_eq_some_iff.mp hx).1
  obtain ⟨b,e1,e2⟩:=hR.2 i _ (List.getElem?_eq_getElem hi)
  rw [e1] at hx
  cases hx
  exact ⟨b,_,rx,List.getElem?_eq_getElem hi,e1,e2⟩
 refine ⟨It,fp,wr,its.length,_,S,fun i j=>nH (T.getD i []) (T.getD j []),fun h=>∀ b o,b∉wr→s2.heap.get? b=some o→h.get? b=some o,rfl,W,st,hf,by omega,fun b o _ e=>e,fun z hz0 h h' k1 k2 b o bw e=>k2 b o bw (fun q0=>Nat.not_lt.mpr hz0 (q0 ▸ Heap.lt_size e)) (k1 b o bw e),fun i j vi vj s' Q' E' kp hi hj hQ'=>?g,fun v h' tk hv hk=>?h⟩
 case g=>
  obtain ⟨b1,r1,rfl,t1,_,q1⟩:=item i vi hi
  obtain ⟨b2,r2,rfl,t2,_,q2⟩:=item j vj hj
  have I':=hI s'.heap s'.toks kp
  obtain ⟨us1,v1,p1,_⟩:=I'.tuple q1
  obtain ⟨us2,v2,p2,_⟩:=I'.tuple q2
  refine aCv (ns:=r1) (ms:=r2) (us:=us1) (vs:=us2) (by have:=hr.un;show X.A.units+1<cLine;omega) p1 p2 (jR v1) (jR v2) ?g
  case g=>
  have e1:T.getD i []=r1:=by rw [List.getD_eq_getElem?_getD,t1];rfl
  have e2:T.getD j []=r2:=by rw [List.getD_eq_getElem?_getD,t2];rfl
  have hQ2:Q' (Value.bool (nH (T.getD i []) (T.getD j []))) s':=hQ'
  rw [e1,e2] at hQ2
  exact hQ2
 case h=>
  obtain ⟨b,row,rfl,t1,e1,q1⟩:=item _ v hv
  refine ⟨.ref b,H,hI h' tk hk,rfl,q _ b row e1 t1 q1 fun r0 hr0=>?g⟩
  case g=>
  obtain ⟨j,hj,rfl⟩:=List.getElem_of_mem hr0
  have:=iD (bt:=fun i j=>nH (T.getD i []) (T.getD j [])) (fun i=>tP _) (fun i j k=>oI) (its.length - 1) j (by omega)
  have e1:T.getD j []=T[j]:=by rw [List.getD_eq_getElem?_getD,List.getElem?_eq_getElem hj];rfl
  have e2:T.getD (argBest (fun i j=>nH (T.getD i []) (T.getD j [])) (its.length - 1)) []=row:=by rw [List.getD_eq_getElem?_getD,t1];rfl
  have g:nH (T.getD j []) (T.getD (argBest (fun i j=>nH (T.getD i []) (T.getD j [])) (its.length - 1)) [])=false:=this
  rw [e1,e2] at g
  exact g
theorem uW {X:Cx}{K:PySem.W.Frag}{k:Nat}(hK:X.K=K)(hr:Room k X.A)(hc:X.calm=true):CallR X (.builtin "min") (aBX K):=by subst hK;exact yY hr hc
noncomputable abbrev aBR (K:PySem.W.Frag):List V→Hp→VK→Prop:=fun vs H Q=>aFn K vs H Q∨aBX K vs H Q
theorem oH {X:Cx}{K:PySem.W.Frag}{k:Nat}(hK:X.K=K)(hr:Room k X.A)(hc:X.calm=true):CallR X (.builtin "min") (aBR K):=by
 intro pins s σ H vs us Q I r h
 rcases h with h | h
 ·exact yB hK hc pins s σ H vs us Q I r h
 ·exact uW hK hr hc pins s σ H vs us Q I r h
noncomputable abbrev xF:List V→Hp→VK→Prop:=fun xs H Q=>(∃ i,xs=[.int i]∧Q (.int i) H)∨∃ k,xs=[.bl k]∧Q (.int (if k then 1 else 0)) H
theorem oC {X:Cx}:CallR X (.type "int") xF:=wY
end L2
namespace L2
open PySem PySem.Spec PyProof.Rows
section
variable {prog:Program}{w:World}{A:Around}{E:Value→Shared→Prop}{s:Shared}
end
section
variable {prog:Program}{w:World}{A:Around}{E:Value→Shared→Prop}{s:Shared}
end
end L2
namespace L2
open PySem PySem.Spec PyProof.Rows
end L2
namespace L2
open PySem
end L2
namespace L2
open PySem PySem.Spec PyProof.Rows
section
variable {prog:Program}{w:World}{A:Around}{E:Value→Shared→Prop}{s:Shared}
end
section
variable {X:Cx}
end
end L2
namespace L2
open PySem
section
variable {X:Cx}
end
end L2
namespace L2
open PySem PySem.Spec PyProof.Rows
section
variable {prog:Program}{w:World}{A:Around}{E:Value→Shared→Prop}{s:Shared}
end
end L2
namespace L2
open PySem PySem.Spec PyProof.Rows
section
variable {X:Cx}
end
end L2
namespace L2
open PySem PySem.Spec PyProof.Rows
section
variable {X:Cx}
end
end L2
namespace L2
open PySem
structure aFC (mg:Str→Option Value):Prop extends aFJ mg where
 set:mg "set" = none
section
variable {X:Cx}
noncomputable def aEj (K:PySem.W.Frag) (ta:TE):TT:=fun σ H Q=>ta σ H fun x H'=>∃ k,aDQ K x H' k∧Q k H'
theorem wA {K:PySem.W.Frag}{a:Expr}{ta:TE}(hK:X.K=K)(ha:PE X a ta)(he:∀ whole,isTrue a X.env whole=(do let v ← whole;standAt a.pos;holding [v] (truthy v))):PT X a (aEj K ta):=by
 subst hK
 exact aAJ ha he
end
end L2
namespace L2
open PySem
structure jO (mg:Str→Option Value):Prop extends aFC mg where
 abs:mg "abs" = none
end L2
namespace L2
open PySem
section
variable {vars:List Nat}{tb:TS}{acc a:Addr}{σ:St}{H:Hp}{j:Nat}{D:iE}{K:PySem.W.Frag}
end
noncomputable def EmR (K:PySem.W.Frag) (vars:List Nat) (tb:TS) (acc:Addr) (σ:St) (H:Hp) (L:List (List Int)):Prop:=
 ∀ (D:iE) (pre:List V) (R:List (List Int)),H acc=some (.lst pre)→Rows K H pre R→R.length+L.length≤100000→(∀ σ' H' pre',σ'.length=σ.length→Agree vars σ σ'→SameX acc H H'→H' acc=some (.lst pre')→Rows K H' pre' (R++L)→D.nx σ' H')→tb D σ H
section
variable {K:PySem.W.Frag}{vars:List Nat}{tb:TS}{acc:Addr}{σ:St}{H:Hp}
theorem EmR.cast {L L':List (List Int)}(h:EmR K vars tb acc σ H L)(e:L=L'):EmR K vars tb acc σ H L':=e ▸ h
theorem zU (vars:List Nat)(L:List (List Int)){g:TG}{J:It}{D:iE}(ha:H acc=none)(hz:L.length≤100000)(h:EmR K vars (fK J g tb) acc σ (upd H acc (.lst [])) L)
  (q:∀ σ' H' pre,Same H H'→H' acc=some (.lst pre)→Rows K H' pre L→D.nx σ' H'):fK J g tb D σ (upd H acc (.lst [])):=
 h _ [] [] aD Rows.nil (by simpa using hz) fun σ' H' pre' _ _ sx h1 h2=>q σ' H' pre' (cE ha sx) h1 (by simpa using h2)
end
end L2
namespace L2
open PySem PySem.Spec PyProof.Rows
open PySem.SeqAt
theorem uF:∀ r:List Int,jZ (r.map Dt.int)=0
 | []=>rfl
 | a :: r=>by rw [List.map_cons,jZ,uF r];rfl
theorem dL:∀ {r q:List Int},eqL (r.map Dt.int) (q.map Dt.int)=true→r=q
 | [],[],_=>rfl
 | [],_ :: _,h=>by simp [eqL] at h
 | _ :: _,[],h=>by simp [eqL] at h
 | a :: r,b :: q,h=>by
  rw [List.map_cons,List.map_cons,eqL,Bool.and_eq_true] at h
  have h1:a=b:=by have:=h.1;rw [eqD] at this;exact eq_of_beq this
  rw [h1,dL h.2]
end L2
namespace L2
open PySem PySem.Spec PyProof.Rows
section
variable {X:Cx}{tg:Expr}
end
end L2
namespace L2
open PySem PySem.Spec PyProof.Rows
section
variable {X:Cx}{pins:List (Addr × Obj)}{σ:St}{H:Hp}{s:Shared}
end
theorem KV.len {κ:Type}:∀ {l:List (κ × V)} {m:List (κ × Value)},KV l m→l.length=m.length
 | _,_, .nil=>rfl
 | _,_, .cons _ t=>by rw [List.length_cons,List.length_cons,KV.len t]
theorem KV.at {κ:Type}:∀ {l:List (κ × V)} {m:List (κ × Value)},KV l m→∀ {i:Nat} {k:κ} {x:Value},m[i]?=some (k,x)→∃ v,l[i]?=some (k,v)
 | _,_, .nil,_,_,_,h=>by cases h
 | _,_, .cons (a:=p) (b:=q) r t,0,k,x,h=>by
  have e:q=(k,x):=by simpa using h
  exact ⟨p.2,by rw [List.getElem?_cons_zero,show p=(k,p.2) from Prod.ext (by rw [r.1,e]) rfl]⟩
 | _,_, .cons _ t,i+1,k,x,h=>KV.at t (i:=i) (by simpa using h)
end L2
namespace L2
open PySem PySem.Spec PyProof.Rows
section
open Builtin Builtin.ObjectAttr Builtin.Getset_descriptor
variable {prog:Program}{w:World}{A:Around}{E:Value→Shared→Prop}{s:Shared}{K:PySem.W.Frag}{x C:Addr}{R:Result→Shared→Prop}
end
section
variable {X:Cx}
end
section
variable {X:Cx}{x:Str}{np cpos pos p:Pos}{C:Addr}{E:XK}{m:Str}{j:Nat}
end
section
variable {X:Cx}{pins:List (Addr × Obj)}{σ:St}{H:Hp}{s:Shared}{E:XK}{a:Addr}{cls a0:Value}{B h2:Heap}
end
section
variable {P:Program}{w:World}{K:PySem.W.Frag}{mg:Str→Option Value}{base:Heap}{N:List Str}{qual:Str}{scope:Scope}{f:Addr}{cd:Value}{A:Around}{outer:List Env}{s₀:Shared}{H₀:Hp}{E:XK}
end
end L2
namespace L2
open PySem PySem.Spec PyProof.Rows
section
variable {X:Cx}{pins:List (Addr × Obj)}{σ:St}{H:Hp}{s:Shared}
end
section
variable {X:Cx}{pins pn pins':List (Addr × Obj)}{σ:St}{H H':Hp}{s s':Shared}{W:Value→Shared→Prop}{a C:Addr}{cls a0:Value}{B h2:Heap}
end
section
variable {X:Cx}{x n:Str}{np pos hpos:Pos}{C0:Addr}{ie ln:Nat}{tb:XK→TS}{th:TS}{body suite:List Stmt}{b₀:Stmt}
end
end L2
namespace L2
open PySem PySem.Spec PyProof.Rows
section
variable {X:Cx}{st:Stmt}{t:TS}{x:Str}{np pos hpos cpos p:Pos}{C C0:Addr}{E:XK}{m:Str}{j:Nat}{K:PySem.W.Frag}
end
section
variable {P:Program}{w:World}{K:PySem.W.Frag}{mg:Str→Option Value}{base:Heap}
end
end L2
namespace L2
open PySem
section
variable {X:Cx}
end
end L2
namespace L2
open PySem
end L2
namespace L2
open PySem
section
variable {P:Program}{w:World}
noncomputable def IsPairKey (P:Program) (w:World) (h:Heap) (k:List Int × Int) (a:Addr):Prop:=∃ o n b t,h.get? a=some o∧o.cls = .type "tuple"∧o.data = .seq #[.ref b, .int k.2 t] n∧IsTupleKey (intKind P w) h k.1 b
theorem IsPairKey.typeIs {s:Shared}{k:List Int × Int}{a:Addr}(x:IsPairKey P w s.heap k a):s.TypeIs (.ref a) "tuple":=let ⟨o,_,_,_,ho,hc,_⟩:=x;⟨o,ho,hc⟩
theorem IsPairKey.inj {h:Heap}{a:Addr}{x y:List Int × Int}(hx:IsPairKey P w h x a)(hy:IsPairKey P w h y a):x=y:=by
 obtain ⟨o,n,b,t,ho,_,hd,hi⟩:=hx
 obtain ⟨o',n',b',t',ho',_,hd',hi'⟩:=hy
 obtain rfl:o=o':=Option.some.inj (ho.symm.trans ho')
 rw [hd] at hd'
 injection hd' with h1 _
 have h2:[Value.ref b, .int x.2 t]=[.ref b', .int y.2 t']:=congrArg Array.toList h1
 injection h2 with h3 h4
 injection h4 with h5 _
 injection h3 with h3
 injection h5 with h5 _
 subst h3
 exact Prod.ext (hi.inj hi') h5
theorem IsPairKey.keeps {h h':Heap}{k:List Int × Int}{a d:Addr}{o:Obj}{es ep}(x:IsPairKey P w h k a)(ho:h.get? d=some o)(hd:o.data = .dict es ep)(hs:Heap.SameBut d h h'):IsPairKey P w h' k a:=by
 obtain ⟨o',n,b,t,ho',hc,hd',hi⟩:=x
 have hne:a≠d:=by
  rintro rfl
  obtain rfl:o'=o:=Option.some.inj (ho'.symm.trans ho)
  rw [hd] at hd';exact nomatch hd'
 exact ⟨o',n,b,t,(hs.2 a hne).trans ho',hc,hd',hi.keeps ho hd hs⟩
noncomputable def pO (P:Program) (w:World) (k:List Int × Int):Int:=reduceHash (Builtin.Tuple.tupleHashOf [tupleKeyHash (intKind P w) k.1,(intKind P w).hash k.2])
variable {A:Around}{E:Value→Shared→Prop}{s:Shared}
theorem rW {k:List Int × Int}{a:Addr}{Q:Int→Shared→Prop}(hu:A.units+5<cLine)(hk:IsPairKey P w s.heap k a)(h:Q (pO P w k) { s with toks:=s.toks+(k.1.length+3) }) :
  wpAny (model P w) A (pyHash (.ref a)) Q E s:=by
 have hT:=hk.typeIs
 obtain ⟨o,n,b,t,ho,_,hd,hi⟩:=hk
 unfold pyHash
 first | unfold pyHashByItsType | skip
 first | refine wpAny_bind (wpAny_cRoomFor_or (.inr (by omega)) ?_) | skip
 refine wpAny_bind (wpAny_specialOf hT F.slot_tuple_hash.lookup ?_)
 show wpAny _ _ (if (some (Value.builtin "tuple.__hash__") == some Value.none)=true then _ else _) Q E s
 rw [if_neg (by rw [beq_builtin_none];exact Bool.false_ne_true)]
 refine wpAny_bind (wpAny_specialOf hT F.slot_tuple_hash.lookup ?_)
 show wpAny _ _ (callSpecialIfBoundUnlessNone? (.ref a) "__hash__" _ >>= _) Q E s
 refine wpAny_bind (wpAny_callSpecialIfBoundUnlessNone?_slot hT F.slot_tuple_hash (wpAny_call_entry F.slot_tuple_hash hT F.entry_tuple_hash ?_ (F.args_tuple_hash_1 _)))
 show wpAny _ _ (Builtin.Tuple.tupleItemsOf (.ref a) >>= _) _ _ s
 refine wpAny_bind (wpAny_tupleItemsOf ho hd ?_)
 refine wpAny_bind ?_
 rw [← Array.forIn_toList]
 show wpAny _ _ (forIn [Value.ref b,Value.int k.2 t] #[] _) _ _ s
 rw [List.forIn_cons]
 refine wpAny_bind (wpAny_bind (wpAny_pyHash_tuple (knd:=intKind P w) (show A.units+1<cLine by omega) hi (wpAny_pure ?_)))
 show wpAny _ _ (forIn [Value.int k.2 t] #[tupleKeyHash (intKind P w) k.1] _) _ _ _
 rw [List.forIn_cons]
 refine wpAny_bind (wpAny_bind ((intKind P w).pyHash (k:=k.2) (v := .int k.2 t) (by show Value.isInt k.2 (.int k.2 t)=true;unfold Value.isInt;exact beq_self_eq_true _) (wpAny_pure ?_)))
 show wpAny _ _ (forIn [] #[tupleKeyHash (intKind P w) k.1,(intKind P w).hash k.2] _) _ _ _
 rw [List.forIn_nil]
 refine wpAny_pure ?_
 show wpAny _ _ (retInt (Builtin.Tuple.tupleHashOf [tupleKeyHash (intKind P w) k.1,(intKind P w).hash k.2])) _ _ _
 refine wpAny_ret_mkInt ?_
 show wpAny _ _ (if (decide (-(2:Int) ^ 63≤Builtin.Tuple.tupleHashOf [tupleKeyHash (intKind P w) k.1,(intKind P w).hash k.2]) && decide (Builtin.Tuple.tupleHashOf [tupleKeyHash (intKind P w) k.1,(intKind P w).hash k.2]<2 ^ 63))=true then _ else _) Q E _
 unfold pO reduceHash at h
 by_cases hr:(decide (-(2:Int) ^ 63≤Builtin.Tuple.tupleHashOf [tupleKeyHash (intKind P w) k.1,(intKind P w).hash k.2]) && decide (Builtin.Tuple.tupleHashOf [tupleKeyHash (intKind P w) k.1,(intKind P w).hash k.2]<2 ^ 63))=true
 ·rw [if_pos hr]
  rw [if_pos hr] at h
  exact wpAny_pure (by simpa [Nat.add_assoc] using h)
 ·rw [if_neg hr]
  rw [if_neg hr] at h
  exact wpAny_bind (wpAny_rule (wpAny_pure (by simpa [Nat.add_assoc] using h)))
theorem rO {x y:List Int × Int}{a b:Addr}{Pd:Fin→Shared→Prop}(hu:A.units<cLine)(hx:IsPairKey P w s.heap x a)(hy:IsPairKey P w s.heap y b)(h:Pd (.done (.ret (.bool (decide (x=y))))) s) :
  wpAny (model P w) A (Builtin.«tuple.__eq__» ⟨[.ref a, .ref b],[]⟩) Pd E s:=by
 have hTb:=hy.typeIs
 obtain ⟨oa,na,ia,ta,hoa,_,hda,hia⟩:=hx
 obtain ⟨ob,nb,ib,tb,hob,_,hdb,hib⟩:=hy
 show wpAny _ _ (isInstance (.ref b) (.type "tuple") >>= _) _ _ s
 refine wpAny_bind (wpAny_isInstance hTb isSubtype_tuple_tuple ?_)
 simp only [Bool.not_true,Bool.false_eq_true,if_false]
 refine wpAny_bind (wpAny_tupleItemsOf hoa hda ?_)
 refine wpAny_bind (wpAny_tupleItemsOf hob hdb ?_)
 refine wpAny_bind ?_
 show wpAny _ _ (forIn [(Value.ref ia,Value.ref ib),(Value.int x.2 ta,Value.int y.2 tb)] _ _) _ _ s
 rw [List.forIn_cons]
 refine wpAny_bind (wpAny_bind (wpAny_eqBool_tuple (knd:=intKind P w) hu hia hib ?_))
 by_cases h1:x.1=y.1
 ·rw [decide_eq_true h1]
  simp only [Bool.not_true,Bool.false_eq_true,if_false]
  refine wpAny_pure ?_
  show wpAny _ _ (forIn [(Value.int x.2 ta,Value.int y.2 tb)] _ _) _ _ s
  rw [List.forIn_cons]
  refine wpAny_bind (wpAny_bind (wpAny_eqBool_int ?_))
  by_cases h2:x.2=y.2
  ·rw [show (x.2 == y.2)=true by rw [h2];exact beq_self_eq_true _]
   simp only [Bool.not_true,Bool.false_eq_true,if_false]
   refine wpAny_pure ?_
   show wpAny _ _ (forIn [] _ _) _ _ s
   rw [List.forIn_nil]
   refine wpAny_pure (wpAny_pure ?_)
   have e:decide (x=y)=true:=decide_eq_true (Prod.ext h1 h2)
   rw [e] at h
   exact h
  ·rw [show (x.2 == y.2)=false by exact beq_false_of_ne h2]
   simp only [Bool.not_false,if_true]
   have e:decide (x=y)=false:=decide_eq_false fun z=>h2 (congrArg Prod.snd z)
   rw [e] at h
   exact wpAny_bind (wpAny_pure (wpAny_pure (wpAny_pure (wpAny_pure h))))
 ·rw [decide_eq_false h1]
  simp only [Bool.not_false,if_true]
  have e:decide (x=y)=false:=decide_eq_false fun z=>h1 (congrArg Prod.fst z)
  rw [e] at h
  exact wpAny_bind (wpAny_pure (wpAny_pure (wpAny_pure (wpAny_pure h))))
theorem sI {x y:List Int × Int}{a b:Addr}{Q:Bool→Shared→Prop}(hu:A.units+5<cLine)(hx:IsPairKey P w s.heap x a)(hy:IsPairKey P w s.heap y b)(h:Q (decide (x=y)) s) :
  wpAny (model P w) A (eqBool (.ref a) (.ref b)) Q E s:=by
 unfold eqBool
 try with_reducible refine wpAny_holding ?_
 show wpAny _ _ (if (Value.ref a == Value.ref b)=true then _ else _) Q E s
 by_cases hab:(Value.ref a == Value.ref b)=true
 ·rw [if_pos hab]
  have e:a=b:=by have:=eq_of_beq hab;injection this
  subst e
  obtain rfl:=hx.inj hy
  exact wpAny_bind (wpAny_rule (wpAny_pure (by simpa using h)))
 ·rw [if_neg hab]
  exact wpAny_bind (wpAny_richCompare_same_room (op := .Eq) hx.typeIs hy.typeIs F.slot_tuple_eq
   (wpAny_call_entry F.slot_tuple_eq hx.typeIs F.entry_tuple_eq (rO (show A.units+1<cLine by omega) hx hy ⟨_,rfl,(fun e=>nomatch e),wpAny_truthy_bool h⟩) (F.args_tuple_eq_2 _ _)) (by omega))
theorem aAj {ks:List Int}{a:Addr}{m:Nat}{Q:Bool→Shared→Prop}(hk:IsTupleKey (intKind P w) s.heap ks a)(h:Q true s):wpAny (model P w) A (eqIsQuiet (m+1) (.ref a)) Q E s:=by
 have hT:=hk.typeIs
 obtain ⟨o,items,n,ho,_,hd,hi⟩:=hk
 unfold eqIsQuiet
 refine wpAny_bind (wpAny_specialOf hT F.slot_tuple_eq.lookup ?_)
 show wpAny _ _ (isInstance (.ref a) (.type "tuple") >>= _) _ _ s
 refine wpAny_bind (wpAny_isInstance hT isSubtype_tuple_tuple ?_)
 simp only [Bool.not_true,Bool.false_eq_true,if_false]
 refine wpAny_bind (wpAny_seqItems ho hd ?_)
 refine wpAny_bind ?_
 show wpAny _ _ (forIn items _ _) _ _ s
 rw [← Array.forIn_toList]
 refine wpAny_forIn_list _ (fun rest r s'=>r.1=none∧s'=s∧∀ v∈rest,carriedByValue v=true) _ ?_ ?_ _ _ ⟨rfl,rfl,hi.byValue⟩
 ·rintro v rest r s' ⟨hr,rfl,hall⟩
  rw [eqIsQuiet_byValue _ (hall v List.mem_cons_self)]
  refine wpAny_bind (wpAny_pure ?_)
  simp only [Bool.not_true,Bool.false_eq_true,if_false]
  exact wpAny_pure ⟨rfl,rfl,fun u hu'=>hall u (List.mem_cons_of_mem _ hu')⟩
 ·rintro ⟨r1,r2⟩ s' ⟨hr,rfl,_⟩
  simp only at hr
  subst hr
  exact wpAny_pure h
theorem vT {k:List Int × Int}{a:Addr}{Q:Bool→Shared→Prop}(hk:IsPairKey P w s.heap k a)(h:Q true s):wpAny (model P w) A (eqIsQuiet 8 (.ref a)) Q E s:=by
 have hT:=hk.typeIs
 obtain ⟨o,n,b,t,ho,_,hd,hi⟩:=hk
 unfold eqIsQuiet
 refine wpAny_bind (wpAny_specialOf hT F.slot_tuple_eq.lookup ?_)
 show wpAny _ _ (isInstance (.ref a) (.type "tuple") >>= _) _ _ s
 refine wpAny_bind (wpAny_isInstance hT isSubtype_tuple_tuple ?_)
 simp only [Bool.not_true,Bool.false_eq_true,if_false]
 refine wpAny_bind (wpAny_seqItems ho hd ?_)
 refine wpAny_bind ?_
 show wpAny _ _ (forIn #[Value.ref b,Value.int k.2 t] _ _) _ _ s
 rw [← Array.forIn_toList]
 show wpAny _ _ (forIn [Value.ref b,Value.int k.2 t] _ _) _ _ s
 rw [List.forIn_cons]
 refine wpAny_bind (wpAny_bind (aAj hi ?_))
 simp only [Bool.not_true,Bool.false_eq_true,if_false]
 refine wpAny_pure ?_
 show wpAny _ _ (forIn [Value.int k.2 t] _ _) _ _ s
 rw [List.forIn_cons,eqIsQuiet_byValue _ (v:=Value.int k.2 t) rfl]
 refine wpAny_bind (wpAny_bind (wpAny_pure ?_))
 simp only [Bool.not_true,Bool.false_eq_true,if_false]
 refine wpAny_pure ?_
 show wpAny _ _ (forIn [] _ _) _ _ s
 rw [List.forIn_nil]
 exact wpAny_pure (wpAny_pure h)
noncomputable def gJ (P:Program) (w:World):HeapKind P w (List Int × Int) where
 is:=IsPairKey P w
 hash:=pO P w
 draws:=fun k=>k.1.length+3
 room:=fun A=>A.units+5<cLine
 inj:=fun hx hy=>hx.inj hy
 keeps:=fun x ho hd hs=>x.keeps ho hd hs
 pyHash:=fun hu hk h=>rW hu hk h
 eqBool:=fun hu hx hy h=>sI hu hx hy h
 quiet:=fun hk h=>vT hk h
end
end L2
namespace L2
open PySem
noncomputable abbrev PKy:=List Int × Int
noncomputable abbrev PEs:=List (PKy × Addr × V)
noncomputable def aDd (k:PKy):Int:=reduceHash (Builtin.Tuple.tupleHashOf [reduceHash (Builtin.Tuple.tupleHashOf (k.1.map hashInt)),hashInt k.2])
noncomputable abbrev zM (p:PKy × Addr × V) (q:PKy × Addr × Value):Prop:=p.1=q.1∧p.2.1=q.2.1∧RelV p.2.2 q.2.2
noncomputable def dpP (a:Addr) (xs:PEs) (ep:Nat) (h:Heap):Prop:=xs.length≤sizeLine∧(a == sysModules)=false∧∃ ys:List (PKy × Addr × Value),Paired zM xs ys ∧
 ∃ o es,h.get? a=some o∧o.ExactDict∧o.data = .dict es ep∧es.toList=ys.map (fun y=>(⟨aDd y.1, .ref y.2.1,y.2.2⟩:DictEntry))∧(ys.map (·.1)).Nodup
noncomputable def dpO (a:Addr) (xs:PEs) (ep:Nat):HO := .ext (dpP a xs ep)
theorem aBh {P:Program}{w:World}{H:Hp}{h:Heap}{a:Addr}{xs:PEs}{ep:Nat}(x:dpP a xs ep h):ObjOk P w H h a (dpO a xs ep):=
 ⟨x,let ⟨_,_,_,_,o,_,e,_⟩:=x;⟨o,e⟩,fun _ _ ⟨z,y,ys,r,o,es,e,rest⟩ k=>⟨z,y,ys,r,o,es,k o e,rest⟩⟩
noncomputable def KeyP (H:Hp) (k:PKy) (c:Addr):Prop:=∃ b,H c=some (.tup [.ref b, .int k.2])∧H b=some (.tup (k.1.map V.int))
noncomputable def DP (H:Hp) (a:Addr) (xs:PEs) (ep:Nat):Prop:=H a=some (dpO a xs ep)∧∀ x∈xs,KeyP H x.1 x.2.1
noncomputable def vQ (xs:PEs) (k:PKy):Option V:=(xs.find? fun x=>decide (x.1=k)).map (·.2.2)
section
variable {P:Program}{w:World}{H:Hp}{h:Heap}{a c:Addr}{k:PKy}{xs:PEs}
theorem jS:∀ {ns:List Int} {its:List Value},Vals (ns.map V.int) its→ItemsAre (intKind P w) ns its
 | [],_, .nil => .nil
 | n :: ns,_, .cons r t=>by
  obtain ⟨tk,rfl⟩:=r
  exact .cons (by show Value.isInt n (.int n tk)=true;unfold Value.isInt;exact beq_self_eq_true _) (jS t)
theorem KeyP.is (ok:HOk P w H h)(e:KeyP H k c):(gJ P w).is h k c:=by
 obtain ⟨b,e1,e2⟩:=e
 obtain ⟨_,its,r,o,h1,h2,⟨n,h3⟩,_⟩:=(show ObjOk P w H h c (.tup [.ref b, .int k.2]) from ok c _ e1)
 obtain ⟨_,its',r',o',h1',h2',⟨n',h3'⟩,_⟩:=(show ObjOk P w H h b (.tup (k.1.map V.int)) from ok b _ e2)
 obtain ⟨u,v,rfl,ru,rv⟩:=r.two
 obtain rfl:u=Value.ref b:=ru
 obtain ⟨t,rfl⟩:=rv
 exact ⟨o,n,b,t,h1,h2,h3,o',its'.toArray,n',h1',h2',h3',by simpa using jS r'⟩
theorem DP.of {ep:Nat}(ok:HOk P w H h)(e:DP H a xs ep):xs.length≤sizeLine∧(a == sysModules)=false∧∃ ys,Paired zM xs ys∧h.DictOfH (gJ P w) a ys:=by
 obtain ⟨z,y,ys,r,o,es,h1,h2,h3,h4,h5⟩:=(show dpP a xs ep h from (ok a _ e.1).1)
 refine ⟨z,y,ys,r,o,es,ep,h1,h2,h3,h4,?_,h5⟩
 have all:∀ {l:PEs} {m:List (PKy × Addr × Value)},Paired zM l m→(∀ x∈l,KeyP H x.1 x.2.1)→∀ x∈m,(gJ P w).is h x.1 x.2.1:=by
  intro l m q
  induction q with
  | nil=>intro _ x hx;exact nomatch hx
  | @cons p q ps qs hq t ih=>
   intro hk x hx
   rcases List.mem_cons.mp hx with e | hx
   ·subst e
    have:=hk p (List.mem_cons_self ..)
    rw [hq.1,hq.2.1] at this
    exact this.is ok
   ·exact ih (fun x hx=>hk x (List.mem_cons_of_mem _ hx)) x hx
 exact all r e.2
theorem aBn:∀ {xs:PEs} {ys:List (PKy × Addr × Value)},Paired zM xs ys→∀ {v:V},vQ xs k=some v→∃ p,atKey ys k=some p∧RelV v p.2
 | _,_, .nil,v,e=>by cases e
 | x :: xs,y :: ys, .cons r t,v,e=>by
  unfold vQ at e
  unfold atKey
  rw [List.find?_cons] at e ⊢
  by_cases hk:x.1=k
  ·rw [decide_eq_true hk] at e
   rw [decide_eq_true (by rw [← r.1];exact hk)]
   cases e
   exact ⟨_,rfl,r.2.2⟩
  ·rw [decide_eq_false hk] at e
   rw [decide_eq_false (by rw [← r.1];exact hk)]
   exact aBn t e
theorem xI:∀ {xs:PEs} {ys:List (PKy × Addr × Value)},Paired zM xs ys→vQ xs k=none→atKey ys k=none
 | _,_, .nil,_=>rfl
 | x :: xs,y :: ys, .cons r t,e=>by
  unfold vQ at e
  unfold atKey
  rw [List.find?_cons] at e ⊢
  by_cases hk:x.1=k
  ·rw [decide_eq_true hk] at e;cases e
  ·rw [decide_eq_false hk] at e
   rw [decide_eq_false (by rw [← r.1];exact hk)]
   exact xI t e
theorem uH:∀ {xs:PEs} {ys:List (PKy × Addr × Value)},Paired zM xs ys→∀ {p:PKy × Addr × V} {q:PKy × Addr × Value},zM p q→Paired zM (xs++[p]) (ys++[q])
 | _,_, .nil,_,_,r => .cons r .nil
 | _,_, .cons r0 t,_,_,r => .cons r0 (uH t r)
end
theorem hu6 {A:Around}{k:Nat}(hr:Room k A):A.units+6<cLine:=Nat.lt_of_le_of_lt (Nat.add_le_add_left (by decide:6≤64) _) hr.units
noncomputable def aBp:TE:=fun _ H Q=>∀ p ep,H p=none→Q (.ref p) (upd H p (dpO p [] ep))
noncomputable def KeyQ (K:PySem.W.Frag) (H:Hp) (k:PKy) (c:Addr):Prop:=∃ b,SqT K H c [.ref b, .int k.2]∧SqT K H b (k.1.map V.int)
theorem KeyP.q {K:PySem.W.Frag}{H:Hp}{k:PKy}{c:Addr}(e:KeyP H k c):KeyQ K H k c:=let ⟨b,h1,h2⟩:=e;⟨b, .of h1, .of h2⟩
theorem KeyQ.is {X:Cx}{pins:List (Addr × Obj)}{σ:St}{H:Hp}{s:Shared}{k:PKy}{c:Addr}(I:Inv X pins σ H s)(e:KeyQ X.K H k c):(gJ X.prog X.w).is s.heap k c:=by
 obtain ⟨b,e1,e2⟩:=e
 obtain ⟨its,r,⟨o,h1,h2,n,h3⟩,_⟩:=I.tuple e1
 obtain ⟨its',r',⟨o',h1',h2',n',h3'⟩,_⟩:=I.tuple e2
 obtain ⟨u,v,rfl,ru,rv⟩:=r.two
 obtain rfl:u=Value.ref b:=ru
 obtain ⟨t,rfl⟩:=rv
 exact ⟨o,n,b,t,h1,h2,h3,o',its'.toArray,n',h1',h2',h3',by simpa using jS r'⟩
noncomputable def aBO (K:PySem.W.Frag) (td ty:TE):TE:=fun σ H Q=>td σ H fun x H1=>ty σ H1 fun y H2=>∃ a c xs ep k v,x = .ref a∧y = .ref c∧DP H2 a xs ep∧KeyQ K H2 k c∧vQ xs k=some v∧Q v H2
noncomputable def aCG (td ty tv:TE):TS:=fun D σ H=>tv σ H fun v H1=>td σ H1 fun x H2=>ty σ H2 fun y H3=>∃ a c xs ep k,x = .ref a∧y = .ref c∧DP H3 a xs ep∧KeyP H3 k c∧vQ xs k=none∧xs.length<sizeLine∧∀ ep',D.nx σ (upd H3 a (dpO a (xs++[(k,c,v)]) ep'))
section
variable {X:Cx}{o i value:Expr}{pos pos':Pos}{td ty tv:TE}
theorem aAb:PE X (.Dict [] [] pos) aBp:=fun pins s σ H Q I h=>
 wpAny_Dict_empty ⟨.ref s.heap.objs.size,_,I.laid (a:=s.heap.objs.size) (o:=dpO s.heap.objs.size [] 0) (t':=s.toks) (fun _ _ q=>Heap.get?_push_of_some _ q) (Nat.le_refl _)
  (aBh ⟨Nat.zero_le _,beq_eq_false_iff_ne.mpr (Ne.symm (Nat.ne_of_lt I.big)),[], .nil,_,#[],Heap.get?_push_size _ rfl,⟨rfl,rfl,rfl⟩,rfl,rfl,List.nodup_nil⟩),rfl,h _ 0 (I.hok.fresh (Nat.le_refl _))⟩
theorem yT {K:PySem.W.Frag}(hK:X.K=K)(hu:X.A.units+6<cLine)(ho:PE X o td)(hi:PE X i ty)(hs:aFj i):PE X (.Subscript o i pos) (aBO K td ty):=by
 subst hK
 intro pins s σ H Q I h
 refine aCj PySem.F.slot_dict_getitem.lookup hs (thn (ho pins s σ H _ I h) fun u s1 ⟨x,H1,I1,rx,q1⟩=>thn (hi pins s1 σ H1 _ I1 q1) fun iv s2 ⟨y,H2,I2,ry,a,c,xs,ep,k,v,ex,ey,dp,kp,hv,q2⟩=>?_)
 subst ex ey
 obtain rfl:u=Value.ref a:=rx
 obtain rfl:iv=Value.ref c:=ry
 obtain ⟨_,_,ys,r,dd⟩:=dp.of I2.hok
 obtain ⟨p,hp,rp⟩:=aBn r hv
 exact ⟨dd.typeIs,wpAny_getItem_heap (knd:=gJ X.prog X.w) (show X.A.units+1+5<cLine by omega) (kp.is I2) dd hp ⟨v,H2,I2.tok _,rp,q2⟩⟩
theorem yQ (hu:X.A.units+6<cLine)(ho:PE X o td)(hi:PE X i ty)(hv:PE X value tv)(hs:swapsWith value (some (.Subscript o i pos')) pos.line X.env=pure false) :
  PS X (.Assign [.Subscript o i pos'] value pos) (aCG td ty tv):=by
 intro pins s σ H D I h
 refine wpAny_Assign_Subscript (thn (hv pins s σ H _ I h) fun r s1 ⟨v,H1,I1,rv,q1⟩=>thn (ho pins s1 σ H1 _ I1 q1) fun u s2 ⟨x,H2,I2,rx,q2⟩=>thn (hi pins s2 σ H2 _ I2 q2) fun iv s3 ⟨y,H3,I3,ry,a,c,xs,ep,k,ex,ey,dp,kp,hn,hz,q3⟩=>?_) hs
 subst ex ey
 obtain rfl:u=Value.ref a:=rx
 obtain rfl:iv=Value.ref c:=ry
 obtain ⟨_,hd,ys,rel,dd⟩:=dp.of I3.hok
 have hl:xs.length=ys.length:=Paired.length rel
 refine wpAny_setItem_heap (knd:=gJ X.prog X.w) (hsz:=by omega) (show X.A.units+1+5<cLine by omega) (kp.is I3.hok) dd fun h' dd' hsb=>?_
 rw [storedH_new (xI rel hn)] at dd'
 obtain ⟨q,es,ep',hq,h2,h3,h4,_,h5⟩:=dd'
 exact ⟨σ,_,aBL I3 (by rw [dp.1];exact True.intro) hsb ⟨q,hq⟩ (aBh ⟨by rw [List.length_append];exact hz,hd,_,uH rel ⟨rfl,rfl,rv⟩,q,es,hq,h2,h3,h4,h5⟩),q3 ep'⟩
end
end L2
namespace L2
open PySem PySem.Spec PyProof.Rows
section
variable {prog:Program}{w:World}{A:Around}{E:Value→Shared→Prop}{s:Shared}{d:Addr}{o:Obj}{es:Array DictEntry}{ep:Nat}
noncomputable abbrev aAw (d:Addr):Obj:={ cls := .type "dict_items",data := .fields #[.ref d] }
noncomputable abbrev aFu (d:Addr) (n ep:Nat):Obj:={ cls := .type "dict_itemiterator",data := .fields #[.none, .bool false, .ref d, .int 0 0, .int n 0, .int ep 0, .none, .none] }
theorem tH {Q:Value→Shared→Prop}(hd:(d == sysModules)=false)(hT:s.TypeIs (.ref d) "dict")(h:Q (.ref s.heap.objs.size) { s with heap:=s.heap.push (aAw d) }):wpAny (model prog w) A (call (.builtin "dict.items") [.ref d]) Q E s:=by
 refine wpAny_call_entry F.slot_dict_items hT F.entry_dict_items ?_ (F.args_dict_items_1 _)
 unfold Builtin.«dict.items» Builtin.Dict.noArgs
 refine wpAny_bind (wpAny_bind (wpAny_notOrdered_dict hT (wpAny_pure ?_)))
 show wpAny _ _ (Builtin.Dict.showsAll d >>= _) _ _ s
 unfold Builtin.Dict.showsAll;rw [if_neg (by rw [hd];exact Bool.false_ne_true)]
 refine wpAny_bind (wpAny_pure (wpAny_bind (wpAny_newObj_type (wpAny_pure ⟨_,rfl,h⟩))))
theorem sZ {v:Addr}{Q:Value→Shared→Prop}(hv:s.heap.IsItemsView v d)(ho:s.heap.get? d=some o)(hd:o.data = .dict es ep)(h:Q (.ref s.heap.objs.size) { s with heap:=s.heap.push (aFu d es.size ep) }):wpAny (model prog w) A (pyIter (.ref v)) Q E s:=by
 have hT:=hv.typeIs
 obtain ⟨ov,hov,hcv,hdv⟩:=hv
 refine wpAny_pyIter_slot hT F.slot_dict_items_iter (wpAny_call_entry F.slot_dict_items_iter hT F.entry_dict_items_iter ?_ (F.args_dict_items_iter_1 _))
 unfold Builtin.«dict_items.__iter__» Builtin.Dict_items.dictOf
 refine wpAny_bind (wpAny_pure (wpAny_bind (wpAny_bind (wpAny_field hov hdv (x := .ref d) rfl (wpAny_pure (wpAny_bind ?_))))))
 unfold Builtin.Dict_items.newIterator
 refine wpAny_bind (wpAny_dictEntries ho hd (wpAny_bind (wpAny_dictEpoch ho hd ?_)))
 simp only [show Builtin.Dict_items.ownsTuple "dict_itemiterator" = true by decide,if_true]
 refine wpAny_newObj_type (wpAny_pure ⟨_,rfl,"dict_itemiterator",_,⟨_,Heap.get?_push_size _ rfl,rfl⟩,F.slot_dict_itemiterator_next.lookup,?_⟩) (by simp only [sizeOk,Builtin.Dict_items.ownedTupleFields,List.size_toArray,List.length_append,List.length_cons,List.length_nil,sizeLine_eq];omega)
 simpa [rawInt,Builtin.Dict_items.ownedTupleFields] using h
theorem sB {it:Addr}{i:Nat}{e:DictEntry}{k0 v0:Value}{Q:Option Value→Shared→Prop}(hit:IsItemIter s.heap it d i es.size ep k0 v0)(ho:s.heap.get? d=some o)(hd:o.data = .dict es ep)(hx:es[i]?=some e)
  (q:∀ h',IsItemIterOut h' it d (i+1) es.size ep e.key e.val s.heap.objs.size→h'.get? s.heap.objs.size=some { cls := .type "tuple",data := .seq #[e.key,e.val] }→h'.objs.size=s.heap.objs.size+1 →
   (∀ b o,b≠it→s.heap.get? b=some o→h'.get? b=some o)→Q (some (.ref s.heap.objs.size)) { s with heap:=h' }) :
  wpAny (model prog w) A (pyNext (.ref it)) Q E s:=by
 obtain ⟨hp,g,dr,tk,os⟩:=s
 have hT:Shared.TypeIs ⟨hp,g,dr,tk,os⟩ (.ref it) "dict_itemiterator":=⟨_,hit,rfl⟩
 unfold pyNext
 refine wpAny_bind (wpAny_attempt (wpAny_callSpecial?_slot (name:=Str.ofString "__next__") hT F.slot_dict_itemiterator_next (wpAny_call_entry F.slot_dict_itemiterator_next hT F.entry_dict_itemiterator_next ?_ (F.args_dict_itemiterator_next_1 _))))
 refine wpAny_bind (wpAny_pure (wpAny_bind (wpAny_bind ?_)))
 first | refine wpAny_bind (wpAny_typeNameOfWhole_itemiter hT (wpAny_pure (wpAny_bind (wpAny_fieldsOf hit rfl ?_)))) | refine wpAny_bind (wpAny_typeNameOf_itemiter hT (wpAny_pure (wpAny_bind (wpAny_fieldsOf hit rfl ?_))))
 simp only [show Builtin.Dict_items.ownsTuple "dict_itemiterator" = true by decide,if_true]
 show wpAny _ _ (if (Value.ref d == Value.none)=true then _ else _) _ _ _
 rw [if_neg (by exact Bool.false_ne_true)]
 refine wpAny_bind (wpAny_pure (wpAny_bind (wpAny_dictEntries ho hd ?_)))
 rw [if_neg (by simp)]
 refine wpAny_bind (wpAny_pure (wpAny_bind (wpAny_dictEpoch ho hd ?_)))
 rw [if_neg (by simp)]
 refine wpAny_pure ?_
 have lt:i<es.size:=by
  rcases Nat.lt_or_ge i es.size with h | h
  ·exact h
  ·rw [Array.getElem?_eq_none h] at hx;cases hx
 rw [Array.getElem?_eq_getElem lt] at hx
 have hx:=Option.some.inj hx
 simp only [show ¬ ((i:Int)<0) from by omega,if_false,Int.toNat_natCast,Array.getElem?_eq_getElem lt,hx]
 refine wpAny_bind ?_
 first | refine wpAny_bind (wpAny_typeNameOfWhole_itemiter hT (wpAny_pure (wpAny_bind (wpAny_isOneOf_itemiter hT ?_)))) | refine wpAny_bind (wpAny_typeNameOf_itemiter hT (wpAny_pure (wpAny_bind (wpAny_isOneOf_itemiter hT ?_))))
 show wpAny _ _ (setField (.ref it) 3 (rawInt ((i:Int)+1)) >>= _) _ _ _
 refine wpAny_bind (wpAny_setField_rec hit (by simp) fun h1 r1 s1=>?_)
 replace s1:Heap.SameBut it hp h1:=s1
 replace r1:IsItemIter h1 it d (i+1) es.size ep k0 v0:=by
  unfold IsItemIter;rw [show ((i+1:Nat):Int)=(i:Int)+1 by omega];simpa [rawInt] using r1
 have T1:Shared.TypeIs ⟨h1,g,dr,tk,os⟩ (.ref it) "dict_itemiterator":=⟨_,r1,rfl⟩
 refine wpAny_bind (wpAny_holding (wpAny_bind (wpAny_isOneOf_itemiter T1 (wpAny_bind (wpAny_isOneOf_itemiter T1 ?_)))))
 show wpAny _ _ (Builtin.Dict_items.pairFromOwner (.ref it) 6 e.key e.val) _ _ ⟨h1,g,dr,tk,os⟩
 unfold Builtin.Dict_items.pairFromOwner
 refine wpAny_bind (wpAny_newTuple ?_)
 have r2:IsItemIter (h1.push { cls := .type "tuple",data := .seq #[e.key,e.val] }) it d (i+1) es.size ep k0 v0:=Heap.get?_push_of_some _ r1
 generalize e2:h1.push { cls := .type "tuple",data := .seq #[e.key,e.val] }=h2 at r2
 have z1:h1.objs.size=hp.objs.size:=s1.1
 have il:it<hp.objs.size:=Heap.lt_size hit
 have t2:h2.get? hp.objs.size=some { cls := .type "tuple",data := .seq #[e.key,e.val] }:=by rw [← e2,← z1];exact Heap.get?_push_size _ rfl
 have z2:h2.objs.size=hp.objs.size+1:=by rw [← e2,Heap.size_push,z1]
 have k2:∀ b o,b≠it→hp.get? b=some o→h2.get? b=some o:=fun b o hb e=>by rw [← e2];exact Heap.get?_push_of_some _ (s1.extBut b o hb e)
 show wpAny _ _ (Builtin.Dict_items.ownedTupleIsFree (.ref it) >>= _) _ _ ⟨h2,g,dr,tk,os⟩
 rw [z1]
 clear e2 r1 s1 T1 z1 h1
 unfold Builtin.Dict_items.ownedTupleIsFree
 refine wpAny_bind (wpAny_bind (wpAny_field r2 rfl (x := .none) rfl (wpAny_pure ?_)))
 simp only [if_true]
 refine wpAny_bind (wpAny_field r2 rfl (x:=k0) rfl (wpAny_bind (wpAny_field r2 rfl (x:=v0) rfl (wpAny_bind (wpAny_setField_rec r2 (by simp) fun h3 r3 s3=>?_)))))
 replace s3:Heap.SameBut it h2 h3:=s3
 replace r3:IsItemIter h3 it d (i+1) es.size ep e.key v0:=r3
 refine wpAny_bind (wpAny_setField_rec r3 (by simp) fun h4 r4 s4=>?_)
 replace s4:Heap.SameBut it h3 h4:=s4
 replace r4:IsItemIter h4 it d (i+1) es.size ep e.key e.val:=r4
 refine wpAny_bind (wpAny_setField_rec r4 (by simp) fun h5 r5 s5=>?_)
 replace s5:Heap.SameBut it h4 h5:=s5
 replace r5:IsItemIterOut h5 it d (i+1) es.size ep e.key e.val hp.objs.size:=r5
 refine wpAny_bind (wpAny_setField_rec r5 (by simp) fun h6 r6 s6=>?_)
 replace s6:Heap.SameBut it h5 h6:=s6
 replace r6:IsItemIterOut h6 it d (i+1) es.size ep e.key e.val hp.objs.size:=r6
 have up:∀ b o,b≠it→h2.get? b=some o→h6.get? b=some o:=fun b o n e=>s6.extBut _ _ n (s5.extBut _ _ n (s4.extBut _ _ n (s3.extBut _ _ n e)))
 refine wpAny_bind (wpAny_letGo (wpAny_pure (wpAny_pure ⟨_,rfl,wpAny_pure (q h6 r6 (up _ _ (Nat.ne_of_gt il) t2) ?_ fun b o n e=>up b o n (k2 b o n e))⟩)))
 show h6.objs.size=hp.objs.size+1
 rw [s6.1,s5.1,s4.1,s3.1,z2]
theorem uZ {it : Addr} {k0 v0 : Value} {Q : Option Value → Shared → Prop} (hh : A.handled = none) (hit : IsItemIter s.heap it d es.size es.size ep k0 v0) (ho : s.heap.get? d = some o) (hd : o.data = .dict es ep)
    (q : ∀ h', Heap.ExtBut it s.heap h' → Q none { s with heap := h' }) : wpAny (model prog w) A (pyNext (.ref it)) Q E s := by
  have hT : s.TypeIs (.ref it) "dict_itemiterator" := ⟨_, hit, rfl⟩
  unfold pyNext
  refine wpAny_bind (wpAny_attempt (wpAny_callSpecial?_slot (name := Str.ofString "__next__") hT F.slot_dict_itemiterator_next (wpAny_call_entry F.slot_dict_itemiterator_next hT F.entry_dict_itemiterator_next ?_ (F.args_dict_itemiterator_next_1 _))))
  refine wpAny_bind (wpAny_pure (wpAny_bind (wpAny_bind ?_)))
  first | refine wpAny_bind (wpAny_typeNameOfWhole_itemiter hT (wpAny_pure (wpAny_bind (wpAny_fieldsOf hit rfl ?_)))) | refine wpAny_bind (wpAny_typeNameOf_itemiter hT (wpAny_pure (wpAny_bind (wpAny_fieldsOf hit rfl ?_))))
  simp only [show Builtin.Dict_items.ownsTuple "dict_itemiterator" = true by decide, if_true]
  show wpAny _ _ (if (Value.ref d == Value.none) = true then _ else _) _ _ _
  rw [if_neg (by exact Bool.false_ne_true)]
  refine wpAny_bind (wpAny_pure (wpAny_bind (wpAny_dictEntries ho hd ?_)))
  rw [if_neg (by simp)]
  refine wpAny_bind (wpAny_pure (wpAny_bind (wpAny_dictEpoch ho hd ?_)))
  rw [if_neg (by simp)]
  refine wpAny_pure ?_
  simp only [show ¬ ((es.size : Int) < 0) from by omega, if_false, Int.toNat_natCast, Array.getElem?_eq_none (Nat.le_refl es.size)]
  refine wpAny_bind ?_
  first | refine wpAny_bind (wpAny_typeNameOfWhole_itemiter hT (wpAny_pure ?_)) | refine wpAny_bind (wpAny_typeNameOf_itemiter hT (wpAny_pure ?_))
  show wpAny _ _ (setField (.ref it) 2 .none >>= _) _ _ s
  refine wpAny_bind (wpAny_setField hit rfl (by simp) ?_)
  show wpAny _ _ (newExc (.type "StopIteration") [] >>= _) _ _ _
  simp only [newExc, newTuple]
  refine wpAny_bind (wpAny_bind (wpAny_newObj_type (wpAny_bind (m := firstArgMember _ _) (wpAny_of_eq (a := Value.none) (by first | rfl | (simp only [firstArgMember]; rfl)) (wpAny_newObj_type ?_ (by size_fits)))) (by size_fits)))
  simp only [raiseNew]
  refine wpAny_bind (wpAny_handled ?_)
  rw [show A.in1.handled = none from hh]
  refine wpAny_bind (wpAny_pure (wpAny_throw ?z))
  case z => refine wpAny_bind (wpAny_isInstance (T := "StopIteration") (b := true) ⟨_, Heap.get?_push_size _ rfl, rfl⟩ isSubtype_stop ?z)
            case z => exact wpAny_pure (q _ (((Heap.SameBut.update ..).extBut.push _).push _))
end
end L2
namespace L2
open PySem PySem.Spec PyProof.Rows
noncomputable def Iti (d:Addr) (xs:PEs) (ep:Nat):It:=
 ⟨fun i H=>i<xs.length∧H d=some (dpO d xs ep),fun i H v H'=>∃ p x,v = .ref p∧H p=none∧xs[i]?=some x∧H'=upd H p (.tup [.ref x.2.1,x.2.2]),fun i H=>i=xs.length∧H d=some (dpO d xs ep)⟩
theorem aBt:∀ {xs:PEs} {ys:List (PKy × Addr × Value)},Paired zM xs ys→∀ {i:Nat} {x:PKy × Addr × V},xs[i]?=some x→∃ y,ys[i]?=some y∧zM x y
 | _,_, .nil,_,_,h=>by cases h
 | _,_, .cons r t,0,x,h=>by
  simp only [List.getElem?_cons_zero,Option.some.injEq] at h
  subst h
  exact ⟨_,by simp,r⟩
 | _,_, .cons _ t,i+1,x,h=>by
  obtain ⟨y,e,r⟩:=aBt t (i:=i) (by simpa using h)
  exact ⟨y,by simpa using e,r⟩
theorem aBN {P:Program}{w:World}{H:Hp}{h:Heap}{d:Addr}{xs:PEs}{ep:Nat}(ok:HOk P w H h)(hd:H d=some (dpO d xs ep)):(d == sysModules)=false∧∃ o es,h.get? d=some o∧o.ExactDict∧o.data = .dict es ep∧es.size=xs.length∧∀ (i:Nat) (x:PKy × Addr × V),xs[i]?=some x→∃ (e:DictEntry) (v:Value),es[i]?=some e∧e.key = .ref x.2.1∧e.val=v∧RelV x.2.2 v:=by
 obtain ⟨z,y,ys,r,o,es,h1,h2,h3,h4,h5⟩:=(show dpP d xs ep h from (ok d _ hd).1)
 have hl:xs.length=ys.length:=Paired.length r
 have hz:es.size=xs.length:=by rw [hl,← Array.length_toList,h4,List.length_map]
 refine ⟨y,o,es,h1,h2,h3,hz,fun i x hx=>?_⟩
 obtain ⟨q,hq,rq⟩:=aBt r hx
 refine ⟨⟨aDd q.1, .ref q.2.1,q.2.2⟩,q.2.2,?_,by rw [rq.2.1],rfl,rq.2.2⟩
 rw [← Array.getElem?_toList,h4,List.getElem?_map,hq];rfl
theorem vU {P:Program}{w:World}{K:PySem.W.Frag}{es:List Expr}{k:Nat}{pos:Pos}{d it:Addr}{xs:PEs}{ep:Nat}(hne:d≠it) :
  aAt P w K (.Tuple es k pos) (Iti d xs ep) [it] it (fun i h=>∃ k0 v0,IsItemIter h it d i xs.length ep k0 v0) where
 mem:=by simp
 obj:=fun i h ⟨k0,v0,e⟩ b hb=>by
  obtain rfl:b=it:=by simpa using hb
  exact ⟨_,e,fun v z=>by cases z⟩
 keep:=fun i h h' ⟨k0,v0,e⟩ kp=>⟨k0,v0,kp it (by simp) _ e⟩
 item:=by
  intro X hP hw hK hc i pins s σ H E I hf st hg
  subst hP hw hK
  obtain ⟨k0,v0,st⟩:=st
  obtain ⟨hi,hd⟩:=hg
  obtain ⟨_,o,es',h1,h2,h3,hz,hat⟩:=aBN I.hok hd
  obtain ⟨e,v,he,ek,ev,rv⟩:=hat i xs[i] (List.getElem?_eq_getElem hi)
  rw [← hz] at st
  refine sB st h1 h3 he fun h' g1 g3 g4 kp=>⟨_,rfl,?_⟩
  refine wpAny_letOwnedTupleGo_items (s:={ s with heap:=h' }) g1 fun h2' g1' sb=>?_
  have hn:H s.heap.objs.size=none:=I.hok.fresh (Nat.le_refl _)
  have lt:it<s.heap.objs.size:=Heap.lt_size st
  have I1:Inv X pins σ (upd H s.heap.objs.size (.tup [.ref xs[i].2.1,xs[i].2.2])) { s with heap:=s.heap.push { cls := .type "tuple",data := .seq #[e.key,e.val] } }:=
   I.laid (t':=s.toks) (fun c o e=>Heap.get?_push_of_some _ e) (Nat.le_refl _) (show ObjOk X.prog X.w _ _ _ (.tup [.ref xs[i].2.1,xs[i].2.2]) from ⟨show 2≤sizeLine by decide,[e.key,e.val], .cons ek (.cons (by rw [ev];exact rv) .nil),TupN.new _ _⟩)
  have hf1:∀ c∈[it],FpOk X pins (upd H s.heap.objs.size (.tup [.ref xs[i].2.1,xs[i].2.2])) c:=fun c hb=>by
   obtain rfl:c=it:=by simpa using hb
   obtain ⟨f0,f⟩:=hf c hb
   exact ⟨by rw [aP (Nat.ne_of_lt lt)];exact f0,f⟩
  have I2:Inv X pins σ (upd H s.heap.objs.size (.tup [.ref xs[i].2.1,xs[i].2.2])) { s with heap:=h' }:=I1.turnedL (t':=s.toks) hf1 fun c o nb e=>by
   rcases Heap.get?_push_cases e with ⟨eb,eo⟩ | e
   ·subst eb;subst eo
    exact g3
   ·exact kp c o (fun q=>nb (by simp [q])) e
  have I3:Inv X pins σ (upd H s.heap.objs.size (.tup [.ref xs[i].2.1,xs[i].2.2])) { s with heap:=h2' }:=I2.turnedL (t':=s.toks) hf1 fun c o nb e=>sb.extBut _ _ (fun q=>nb (by simp [q])) e
  rw [hz] at g1'
  exact ⟨.ref s.heap.objs.size,_,I3,rfl,⟨_,xs[i],rfl,hn,List.getElem?_eq_getElem hi,rfl⟩,⟨_,_,g1'⟩,fun c hb=>(hf1 c hb).1⟩
 done:=by
  intro X hP hw hK hc i pins s σ H E I hf st hg
  subst hP hw hK
  obtain ⟨k0,v0,st⟩:=st
  obtain ⟨hi,hd⟩:=hg
  subst hi
  obtain ⟨_,o,es',h1,h2,h3,hz,_⟩:=aBN I.hok hd
  rw [← hz] at st
  refine uZ (I.ok.hd hc) st h1 h3 fun h' kp=>⟨rfl,?_⟩
  exact I.turnedL (t':=s.toks) hf fun c o n e=>kp c o (fun q=>n (by simp [q])) e
 self:=fun _ _ s _ _ st q=>by
  obtain ⟨k0,v0,st⟩:=st
  exact PySem.W.kcp_self st q
noncomputable def aBu (td:TE):TI:=fun σ H R=>td σ H fun x H1=>∃ d xs ep,x = .ref d∧H1 d=some (dpO d xs ep)∧R (Iti d xs ep) H1
theorem aAf {X:Cx}{es:List Expr}{k:Nat}{po apos cpos:Pos}{o:Expr}{td:TE}(ho:PE X o td)
  (hbase:attributeBase o "items" X.env (eval o X.env)=eval o X.env:=by rfl) (hline:(apos.endLine == cpos.line)=true:=by rfl) :
  PI X (.Tuple es k po) (.Call (.Attribute o "items" apos) [] [] cpos) (aBu td):=by
 intro pins s σ H R I h
 refine wpAny_Call_method0_late hbase hline (thn (ho pins s σ H _ I h) fun v s1 ⟨x,H1,I1,r1,d,xs,ep,ex,hd,q1⟩=>?_)
 subst ex
 obtain rfl:v=Value.ref d:=r1
 obtain ⟨ysm,ob,es',h1,h2,h3,hz,_⟩:=aBN I1.hok hd
 have hT:s1.TypeIs (.ref d) "dict":=⟨ob,h1,h2.1⟩
 refine ⟨"dict","dict.items",F.plainAttrs_dict,F.slot_dict_items,F.type_dict_items,hT,fun a ea=>by cases ea;exact ⟨ob,h1,h2.2.1⟩,Calls.callWith_builtin rfl (PySem.evalArgs_none (tH ysm hT ?_))⟩
 have hv:(s1.heap.push (aAw d)).IsItemsView s1.heap.objs.size d:=⟨_,Heap.get?_push_size _ rfl,rfl,rfl⟩
 have h1':(s1.heap.push (aAw d)).get? d=some ob:=Heap.get?_push_of_some _ h1
 refine sZ (s:={ s1 with heap:=s1.heap.push (aAw d) }) hv h1' h3 ?_
 have I2:Inv X pins σ H1 { s1 with heap:=s1.heap.push (aAw d) }:=I1.kept (t':=s1.toks) fun b o e=>Heap.get?_push_of_some _ e
 have I3:Inv X pins σ H1 { s1 with heap:=(s1.heap.push (aAw d)).push (aFu d es'.size ep) }:=I2.kept (t':=s1.toks) fun b o e=>Heap.get?_push_of_some _ e
 have hne:d≠(s1.heap.push (aAw d)).objs.size:=Nat.ne_of_lt (Heap.lt_size h1')
 refine ⟨_,[(s1.heap.push (aAw d)).objs.size],_,_,H1,rfl,I3,vU hne,⟨_,_,by rw [← hz];exact Heap.get?_push_size _ rfl⟩,fun c hb=>?_,q1⟩
 obtain rfl:c=(s1.heap.push (aAw d)).objs.size:=by simpa using hb
 exact I2.fpOk (Nat.le_refl _) (I2.hok.fresh (Nat.le_refl _))
theorem vZ {d:Addr}{xs:PEs}{ep:Nat}{g:TG}{tb:TS}{D:iE}{σ:St}{H:Hp}(Pv:Nat→St→Hp→Prop)(h0:Pv 0 σ H)(hl:∀ i σ H,i≤xs.length→Pv i σ H→H d=some (dpO d xs ep))
  (hs:∀ i x σ H p,xs[i]?=some x→H p=none→Pv i σ H→g (.ref p) σ (upd H p (.tup [.ref x.2.1,x.2.2])) fun σ2 H2=>tb { D with nx:=Pv (i+1),ct:=Pv (i+1),bk:=D.nx } σ2 H2) (hd:∀ σ H,Pv xs.length σ H→D.nx σ H) :
  fK (Iti d xs ep) g tb D σ H:=by
 refine ⟨fun i m σ H=>m=xs.length - i∧i≤xs.length∧Pv i σ H,⟨xs.length,by simp,Nat.zero_le _,h0⟩,?_⟩
 rintro i m σ H ⟨rfl,hi,p⟩
 have q1:=hl i σ H hi p
 by_cases hlt:i<xs.length
 ·refine .inr ⟨⟨hlt,q1⟩,Pv (i+1),fun σ' H' p'=>⟨xs.length - (i+1),by omega,rfl,hlt,p'⟩,fun v H' ⟨a,x,e1,e2,e3,e4⟩=>?_⟩
  subst e1;subst e4
  exact hs i x σ H a e3 e2 p
 ·obtain rfl:i=xs.length:=by omega
  exact .inl ⟨⟨rfl,q1⟩,hd σ H p⟩
noncomputable def Itv (K:PySem.W.Frag) (l:Addr) (n:Nat):It:=
 ⟨fun i H=>i<n∧∃ xs,SqL K H l xs∧xs.length=n,fun i H x H'=>H'=H∧∀ xs,SqL K H l xs→xs[n - 1 - i]?=some x,fun i H=>i=n∧∃ xs,SqL K H l xs∧xs.length=n⟩
theorem aAl {P:Program}{w:World}{K:PySem.W.Frag}{tg:Expr}{l it:Addr}{n:Nat}(hne:l≠it):aAt P w K tg (Itv K l n) [it] it (fun i h=>h.IsRevIter it l ((n:Int) - 1 - (i:Int))) where
 mem:=by simp
 obj:=fun i h st b hb=>by
  obtain rfl:b=it:=by simpa using hb
  obtain ⟨o,e,c,d⟩:=st
  exact ⟨o,e,fun v z=>by rw [d] at z;cases z⟩
 keep:=fun i h h' st k=>st.at fun o e=>k it (by simp) o e
 item:=by
  intro X hP hw hK hc i pins s σ H E I hf st hg
  subst hP hw hK
  obtain ⟨hi,xs,hq,hn⟩:=hg
  obtain ⟨its,r,pl,hz⟩:=I.list hq
  have hl:its.toArray.size=n:=by rw [List.size_toArray,← r.length,hn]
  obtain ⟨f0,f1,f2,f3,f4,f5⟩:=hf it (by simp)
  have W:=Walks.listRev (prog:=X.prog) (w:=X.w) (I.ok.hd hc) it l hne its.toArray
  rw [hl] at W
  refine W.item i s _ _ hi ⟨by omega,st,pl.isList⟩ fun v h' tk hv st' kk=>?_
  have I1:Inv X pins σ H { s with heap:=h',toks:=tk }:=I.turned (fun b o hb e=>kk b o (by simpa using hb) e) f0 f1 f3 f4 f5
  have st1:=st'.2.1
  obtain ⟨o1,e1,c1,d1⟩:=id st1
  have hx:xs[n - 1 - i]?=some (xs[n - 1 - i]'(by omega)):=List.getElem?_eq_getElem (by omega)
  obtain ⟨u,hu,ru⟩:=r.get hx
  obtain rfl:u=v:=by rw [List.getElem?_toArray,hu] at hv;exact Option.some.inj hv
  exact ⟨u,rfl,aAU (s:={ s with heap:=h',toks:=tk }) e1 c1 d1 (by decide) ⟨xs[n - 1 - i]'(by omega),H,I1,ru,⟨rfl,fun ys hy=>by rw [I.list_inj hy hq];exact hx⟩,st1,fun b hb=>(hf b hb).1⟩⟩
 done:=by
  intro X hP hw hK hc i pins s σ H E I hf st hg
  subst hP hw hK
  obtain ⟨hi,xs,hq,hn⟩:=hg
  subst hi
  obtain ⟨its,r,pl,hz⟩:=I.list hq
  have hl:its.toArray.size=i:=by rw [List.size_toArray,← r.length,hn]
  obtain ⟨f0,f1,f2,f3,f4,f5⟩:=hf it (by simp)
  have W:=Walks.listRev (prog:=X.prog) (w:=X.w) (I.ok.hd hc) it l hne its.toArray
  rw [hl] at W
  refine W.done s _ _ ⟨Nat.le_refl _,st,pl.isList⟩ fun h' tk kk=>⟨rfl,I.turned (fun b o hb e=>kk b o (by simpa using hb) e) f0 f1 f3 f4 f5⟩
 self:=fun _ _ _ _ _ st h=>wpAny_pyIter_revIter st h
noncomputable def aFo (K:PySem.W.Frag) (ta:TA):TI:=fun σ H R=>ta σ H fun vs H1=>∃ l xs,vs=[.ref l]∧SqL K H1 l xs∧R (Itv K l xs.length) H1
theorem sF:bootBuiltins "reversed" = some (.type "reversed"):=by decide +kernel
theorem aDC {X:Cx}{K:PySem.W.Frag}{tg a:Expr}{ta:TA}{p pos:Pos}(hK:X.K=K)(hg:Gl X "reversed")(hm:X.mg "reversed" = none)(ha:PA X [a] ta)(hs:starEach [a] X.env=[(false,eval a X.env)]:=by rfl) :
  PI X tg (.Call (.Name "reversed" p) [a] [] pos) (aFo K ta):=by
 subst hK
 intro pins s σ H R I h
 refine Call_ (kJ I hg hm sF (PyProof.Rows.callWith_type1 (thn (ha pos pins s σ H _ I h) fun us s1 ⟨vs,H1,I1,r1,q1⟩=>?_) hs rfl))
 obtain ⟨l,xs,e,q2,q⟩:=q1
 subst e
 obtain ⟨u1,rfl,e1⟩:=pB r1
 obtain rfl:u1=Value.ref l:=e1
 obtain ⟨its,rr,pl,hz⟩:=I1.list q2
 have hl:its.toArray.size=xs.length:=by rw [List.size_toArray,← rr.length]
 have hlt:l<s1.heap.objs.size:=let ⟨o,e,_⟩:=pl.isList;Heap.lt_size e
 refine call_reversed_list pl.isList ?_
 rw [hl]
 have st:(s1.heap.push (revObj l ((xs.length:Int) - 1))).IsRevIter s1.heap.objs.size l ((xs.length:Int) - 1):=⟨_,Heap.get?_push_size _ rfl,rfl,rfl⟩
 refine wpAny_pyIter_revIter (s:={ s1 with heap:=s1.heap.push (revObj l ((xs.length:Int) - 1)) }) st ?_
 refine ⟨_,[s1.heap.objs.size],_,_,H1,rfl,I1.kept (t':=s1.toks) fun b o e=>Heap.get?_push_of_some _ e,aAl (n:=xs.length) (Nat.ne_of_lt hlt),by simpa using st,fun c hb=>?_,q⟩
 obtain rfl:c=s1.heap.objs.size:=by simpa using hb
 exact I1.fpOk (Nat.le_refl _) (I1.hok.fresh (Nat.le_refl _))
theorem aCm {K:PySem.W.Frag}{l:Addr}{xs:List V}{n:Nat}{g:TG}{tb:TS}{D:iE}{σ:St}{H:Hp}(hn:xs.length=n)(Pv:Nat→St→Hp→Prop)(h0:Pv 0 σ H)(hl:∀ i σ H,i≤n→Pv i σ H→SqL K H l xs)
  (hs:∀ i x σ H,i<n→xs[n - 1 - i]?=some x→Pv i σ H→g x σ H fun σ2 H2=>tb { D with nx:=Pv (i+1),ct:=Pv (i+1),bk:=D.nx } σ2 H2) (hd:∀ σ H,Pv n σ H→D.nx σ H) :
  fK (Itv K l n) g tb D σ H:=by
 refine ⟨fun i m σ H=>m=n - i∧i≤n∧Pv i σ H,⟨n,by simp,Nat.zero_le _,h0⟩,?_⟩
 rintro i m σ H ⟨rfl,hi,p⟩
 have q1:=hl i σ H hi p
 by_cases hlt:i<n
 ·refine .inr ⟨⟨hlt,xs,q1,hn⟩,Pv (i+1),fun σ' H' p'=>⟨n - (i+1),by omega,rfl,hlt,p'⟩,fun v H' ⟨e1,e2⟩=>?_⟩
  subst e1
  exact hs i v σ _ hlt (e2 xs q1) p
 ·obtain rfl:i=n:=by omega
  exact .inl ⟨⟨rfl,xs,q1,hn⟩,hd σ H p⟩
noncomputable def aFt (K:PySem.W.Frag) (ta tb:TE):TE:=fun σ H Q=>ta σ H fun x H1=>∃ c,aDQ K x H1 c∧if c=true then Q x H1 else tb σ H1 Q
theorem aDO {X:Cx}{K:PySem.W.Frag}{a b:Expr}{rest:List Expr}{pos:Pos}{ta tb:TE}(hK:X.K=K)(ha:PE X a ta)(hb:PE X (.BoolOp .Or (b :: rest) pos) tb):PE X (.BoolOp .Or (a :: b :: rest) pos) (aFt K ta tb):=by
 subst hK
 intro pins s σ H Q I h
 refine BoolOp_or (thn (ha pins s σ H _ I h) fun v s1 ⟨x,H1,I1,r1,c,tr,q1⟩=>?_)
 refine thn (aBi pins s1 σ H1 x v (fun k H'=>k=c∧H'=H1) I1 r1 ⟨c,tr,rfl,rfl⟩) fun k s2 ⟨H2,I2,ek,eH⟩=>?_
 subst ek eH
 cases k with
 | false=>exact hb pins s2 σ _ Q I2 (by simpa using q1)
 | true=>exact ⟨x,_,I2,r1,by simpa using q1⟩
end L2
namespace L2
open PySem
theorem tG {H H':Hp}{p:Addr}{o:HO}(h:H p=none)(s:Same H H'):Same H (upd H' p o):=fun b u e=>by rw [aP (aM e h)];exact s _ _ e
section
variable {K:PySem.W.Frag}
end
end L2
namespace L2
open PySem
open PySem.SeqAt
section
variable {X:Cx}
end
end L2
namespace L2
open PySem PySem.W PyProof.Rows
section
variable (r:Nat→Int)
variable {r}
end
end L2
namespace L2
open PySem PySem.W PyProof.Rows
section
variable {N:Nat}
end
end L2
namespace L2
open PySem PySem.W PyProof.Rows
section
variable {prog:Program}{w:World}{A:Around}{E:Value→Shared→Prop}{s:Shared}
end
end L2
namespace L2
open PySem PySem.W PyProof.Rows
section
variable {prog:Program}{w:World}{A:Around}{E:Value→Shared→Prop}{s:Shared}
end
end L2
namespace L2
open PySem PyProof.Rows
theorem aAS (r q:List Int):eqD (.tup (r.map Dt.int)) (.tup (q.map Dt.int))=decide (r=q):=by
 by_cases h:r=q
 ·subst h;rw [jA,decide_eq_true rfl]
 ·rw [decide_eq_false h]
  cases e:eqD (.tup (r.map Dt.int)) (.tup (q.map Dt.int)) with
  | false=>rfl
  | true=>rw [eqD] at e;exact absurd (dL e) h
noncomputable def aFw (K:PySem.W.Frag) (neg:Bool):R2:=fun x y H Q=>∃ (b p:Addr) (r:List Int) (xs:List V) (R:List (List Int)),x = .ref b∧y = .ref p∧SqT K H b (r.map V.int)∧Sq K H p xs∧Rows K H xs R∧Q (.bl (if neg then !decide (r∈R) else decide (r∈R))) H
section
variable {X:Cx}
theorem uD {pins:List (Addr × Obj)}{σ:St}{H:Hp}{s:Shared}{b:Addr}{r:List Int}{xs:List V}{R:List (List Int)}{its:List Value}(hu:X.A.units+103<cLine)(I:Inv X pins σ H s)(hb:SqT X.K H b (r.map V.int))(hR:Rows X.K H xs R)(rv:Vals xs its) :
  ∃ e:Value→Bool,(∀ u,u∈its→SeqAt.EqAt X.A.in1 s u (.ref b) (e u))∧its.any e=decide (r∈R):=by
 classical
 have hl:=rv.length
 have row_of:∀ i (hi:i<its.length),∃ c,∃ hR':i<R.length,its[i] = .ref c∧SqT X.K H c (R[i].map V.int):=fun i hi=>by
  have hR':i<R.length:=by rw [← hR.1,hl];exact hi
  obtain ⟨c,e1,e2⟩:=hR.2 i R[i] (List.getElem?_eq_getElem hR')
  obtain ⟨u,eu,rU⟩:=rv.get e1
  rw [List.getElem?_eq_getElem hi] at eu
  cases eu
  exact ⟨c,hR',rU,e2⟩
 refine ⟨fun u=>decide (∃ c,u = .ref c∧SqT X.K H c (r.map V.int)),fun u hu'=>?_,?_⟩
 ·obtain ⟨i,hi,rfl⟩:=List.getElem_of_mem hu'
  obtain ⟨c,hR',e1,e2⟩:=row_of i hi
  rw [e1]
  have sh:∀ (q:List Int) (a:Addr),SqT X.K H a (q.map V.int)→Sh X.K H (.tup (q.map Dt.int)) (.ref a):=fun q a h=>⟨a,_,rfl,h,ShL.ints q⟩
  have g:=(I.eq_sh 100 X.A.in1 (.tup (R[i].map Dt.int)) (.tup (r.map Dt.int)) (.ref c) (.ref b) (.ref c) (.ref b) (by rw [dep,uF];decide) (by show X.A.units+1+100<cLine;omega) rfl rfl (sh _ _ e2) (sh _ _ hb)).2
  rw [aAS] at g
  have ee:decide (R[i]=r)=decide (∃ c',Value.ref c = .ref c'∧SqT X.K H c' (r.map V.int)):=by
   by_cases h:R[i]=r
   ·rw [decide_eq_true h,decide_eq_true ⟨c,rfl,h ▸ e2⟩]
   ·rw [decide_eq_false h,decide_eq_false]
    rintro ⟨c',e,h'⟩
    cases e
    have:=I.tuple_inj e2 h'
    exact h ((List.map_inj_right fun a b z=>V.int.inj z).mp this)
  show SeqAt.EqAt X.A.in1 s (Value.ref c) (Value.ref b) (decide (∃ c',Value.ref c = .ref c'∧SqT X.K H c' (r.map V.int)))
  rw [← ee]
  exact g
 ·by_cases h:r∈R
  ·rw [decide_eq_true h]
   obtain ⟨i,hi,e⟩:=List.getElem_of_mem h
   have hi':i<its.length:=by rw [← hl,hR.1];exact hi
   obtain ⟨c,_,e1,e2⟩:=row_of i hi'
   rw [List.any_eq_true]
   exact ⟨its[i],List.getElem_mem _,by rw [e1];exact decide_eq_true ⟨c,rfl,e ▸ e2⟩⟩
  ·rw [decide_eq_false h,List.any_eq_false]
   intro u hu'
   obtain ⟨i,hi,rfl⟩:=List.getElem_of_mem hu'
   obtain ⟨c,hR',e1,e2⟩:=row_of i hi
   rw [decide_eq_true_iff]
   rintro ⟨c',e,h'⟩
   rw [e1] at e
   cases e
   have:=I.tuple_inj e2 h'
   exact h ((List.map_inj_right fun a b z=>V.int.inj z).mp this ▸ List.getElem_mem hR')
theorem aDr (hu:X.A.units+103<cLine):OpR X (compareOp .In) (aFw X.K false):=by
 intro pins s σ H x y v u Q I rx ry ⟨b,p,r,xs,R,e1,e2,hb,hq,hR,q⟩
 subst e1 e2
 cases rx
 cases ry
 rcases hq with hq | hq
 ·obtain ⟨its,rv,pl,_⟩:=I.list hq
  obtain ⟨e,h1,h2⟩:=uD hu I hb hR rv
  refine SeqAt.in_listAt e pl.isList (fun w hw=>h1 w (by simpa using hw)) ⟨.bl _,H,I,rfl,?_⟩
  rw [show its.toArray.any e=its.any e by simp,h2]
  exact q
 ·obtain ⟨its,rv,pl,_⟩:=I.tuple hq
  obtain ⟨e,h1,h2⟩:=uD hu I hb hR rv
  refine SeqAt.in_tupleAt e pl (fun w hw=>h1 w (by simpa using hw)) ⟨.bl _,H,I,rfl,?_⟩
  rw [show its.toArray.any e=its.any e by simp,h2]
  exact q
end
noncomputable def aFy (K:PySem.W.Frag) (neg:Bool):R2:=fun x y H Q=>rIn K neg x y H Q∨aFw K neg x y H Q
theorem aBI {X:Cx}{K:PySem.W.Frag}{k:Nat}(hK:X.K=K)(hr:Room k X.A):OpR X (compareOp .In) (aFy K false):=by
 subst hK
 exact OpR.or xG (aDr (by have:=hr.un;omega))
end L2
namespace L2
open PySem PyProof.Rows
section
variable {X:Cx}
end
end L2
namespace L2
open PySem PySem.Spec PyProof.Rows
section
variable {prog:Program}{w:World}{A:Around}{E:Value→Shared→Prop}{s:Shared}{d:Addr}{o:Obj}{es:Array DictEntry}{ep:Nat}
end
end L2
namespace L2
open PySem PySem.Spec PyProof.Rows
end L2
namespace L2
open PySem PySem.Spec PyProof.Rows
section
variable {prog:Program}{w:World}{K:Type}[DecidableEq K]{knd:HeapKind prog w K}{A:Around}{E:Value→Shared→Prop}{s:Shared}{d a:Addr}{xs:List (K × Addr × Value)}{k:K}
end
end L2
namespace L2
open PySem PySem.Spec PyProof.Rows
section
variable {X:Cx}{pins:List (Addr × Obj)}{σ:St}{H:Hp}{s:Shared}{A:Around}{E:Value→Shared→Prop}{a b:Addr}{kvs:List (List Key × V)}{k:List Key}
end
section
variable {X:Cx}{o e f:Expr}{td ty tx:TE}{apos cpos:Pos}
end
end L2
namespace L2
open PySem PySem.Spec PyProof.Rows
end L2
namespace L2
open PySem PySem.Spec PyProof.Rows
section
variable {prog:Program}{w:World}{A:Around}{E:Value→Shared→Prop}{s:Shared}{d:Addr}{o:Obj}{es:Array DictEntry}{ep:Nat}
end
noncomputable def mX (xs:PEs) (k:PKy) (c:Addr) (v:V):PEs:=if (xs.any fun x=>decide (x.1=k))=true then xs.map (fun x=>if x.1=k then (x.1,x.2.1,v) else x) else xs++[(k,c,v)]
end L2
namespace L2
open PySem PySem.Spec PyProof.Rows
section
variable {prog:Program}{w:World}{A:Around}{E:Value→Shared→Prop}{s:Shared}
end
section
variable {X:Cx}{o i value:Expr}{pos pos':Pos}{td ty tv:TE}
end
end L2
namespace L2
open PySem PySem.Spec PyProof.Rows
end L2
namespace L2
open PySem PySem.Spec PyProof.Rows
section
variable {X:Cx}
noncomputable def CMulG (i j:Int):Prop:=i.natAbs<2 ^ 8000∧j.natAbs<2 ^ 8000
theorem xK {k:Int}(h:k.natAbs<2 ^ 8000):Builtin.Int.intBits k≤8000:=by
 unfold Builtin.Int.intBits
 split
 ·exact Nat.zero_le _
 ·rename_i c
  have hk:k.natAbs≠0:=fun e=>c (by simp [Int.natAbs_eq_zero.mp e])
  have:=(Nat.log2_lt hk).mpr h
  omega
theorem CMulG.ok {i j:Int}(h:CMulG i j):IntMulOk i j:=by
 unfold IntMulOk Builtin.Int.intTooBig
 have h1:=xK h.1
 have h2:=xK h.2
 have:¬ (((Builtin.Int.intBits i+Builtin.Int.intBits j:Nat):Int) > (bitsLine:Int)):=by
  have:(16000:Int)≤(bitsLine:Int):=by decide
  omega
 intro e
 rw [Bool.and_eq_true] at e
 have:=of_decide_eq_true e.2
 omega
end
end L2
namespace L2
open PySem PySem.Spec PyProof.Rows
noncomputable def aBJ:Nat→List (List Nat)
 | 0=>[[]]
 | n+1=>aBJ n++(aBJ n).map (· ++ [n])
noncomputable def aEN:List (List Nat):=aBJ 8
end L2
namespace L2
open PySem PySem.Spec PyProof.Rows
noncomputable def SmE (es:Array (Int × Value)) (ks:List Nat):Prop:=ks∈aEN∧es.toList.map (·.1)=ks.map Int.ofNat∧∀ e∈es.toList,∃ tk,e.2 = .int e.1 tk
theorem SmE.size {es:Array (Int × Value)}{ks:List Nat}(h:SmE es ks):es.size=ks.length:=by
 have:=congrArg List.length h.2.1
 simpa using this
section
variable {prog:Program}{w:World}{A:Around}{E:Value→Shared→Prop}{s:Shared}
end
end L2
namespace L2
open PySem PySem.Spec PyProof.Rows
section
variable {prog:Program}{w:World}{A:Around}{R:Result→Shared→Prop}{I:Addr}{fp wr:List Addr}{G:Array GenState→Array GenState→Prop}{n:Nat}{P:Nat→Value→Prop}{St:Nat→Shared→Prop}
end
section
variable {prog:Program}{w:World}{A:Around}{E:Value→Shared→Prop}{s:Shared}
end
end L2
namespace L2
open PySem PySem.Spec PyProof.Rows
noncomputable def SIt (it a:Addr) (slot i n ep:Nat) (h:Heap):Prop:=∃ o,h.get? it=some o∧o.cls = .type "set_iterator"∧o.data = .fields #[rawInt slot,rawInt i, .ref a,rawInt n,rawInt ep]
section
variable {prog:Program}{w:World}{A:Around}{E:Value→Shared→Prop}{s:Shared}{a:Addr}{es:Array (Int × Value)}{ep:Nat}{ks:List Nat}
theorem SIt.typeIs {it:Addr}{slot i n:Nat}(x:SIt it a slot i n ep s.heap):s.TypeIs (.ref it) "set_iterator":=let ⟨o,h1,h2,_⟩:=x;⟨o,h1,h2⟩
end
end L2
namespace L2
open PySem PySem.Spec PySem.W PyProof.Rows
section
variable {prog:Program}{w:World}{A:Around}{E:Value→Shared→Prop}{s:Shared}{a:Addr}{es:Array (Int × Value)}{ep:Nat}{ks:List Nat}
theorem SIt.at {h h':Heap}{it:Addr}{sl i n:Nat}(x:SIt it a sl i n ep h)(e:∀ o,h.get? it=some o→h'.get? it=some o):SIt it a sl i n ep h':=let ⟨o,ho,r⟩:=x;⟨o,e _ ho,r⟩
end
section
variable {X:Cx}
end
end L2
namespace L2
open PySem PySem.Spec PyProof.Rows
theorem DP.at {X:Cx}{pins:List (Addr × Obj)}{σ:St}{H:Hp}{s:Shared}{a:Addr}{xs:PEs}{ep:Nat}(I:Inv X pins σ H s)(d:DP H a xs ep) :
  s.TypeIs (.ref a) "dict"∧(∀ b,Value.ref a = .ref b→∃ ob,s.heap.get? b=some ob∧ob.dict=none)∧(a == sysModules)=false:=by
 obtain ⟨_,hd,ys,_,dd⟩:=d.of I.hok
 refine ⟨dd.typeIs,fun b q=>?_,hd⟩
 cases q
 obtain ⟨ob,_,_,h1,h2,_⟩:=dd
 exact ⟨ob,h1,h2.2.1⟩
section
variable {X:Cx}{o e f:Expr}{apos cpos:Pos}{td ty tx:TE}
end
end L2
namespace L2
open PySem PySem.Spec PyProof.Rows
section
variable {X:Cx}
end
end L2
namespace L2
open PySem PySem.Spec PyProof.Rows
open PySem.SeqAt PySem.MeetsSeq3
section
variable {A:Around}{s:Shared}{l b:Addr}{us vs:List Value}{R S:List (List Int)}
end
end L2
namespace L2
open PySem PySem.Spec PyProof.Rows
open PySem.SeqAt PySem.MeetsSeq
open AutoSeq1 (wpAny_loadPart')
section
variable {X:Cx}
end
end L2
namespace L2
open PySem
section
variable {X:Cx}
end
end L2
namespace L2
open PySem PySem.Spec PyProof.Rows
section
variable {X:Cx}
end
end L2
namespace L2
open PySem PySem.Spec PyProof.Rows
section
variable {X:Cx}
end
end L2
namespace L2
open PySem PySem.W PyProof.Rows
open PySem.SeqAt
section
variable {prog:Program}{w:World}{A:Around}{E:Value→Shared→Prop}{s:Shared}
end
section
variable {X:Cx}
end
section
variable {X:Cx}{a b c d:Expr}{ta tb tc td:TE}{pos:Pos}
end
end L2
namespace L2
open PySem PySem.Spec PyProof.Rows
section
variable {M:Model}{A:Around}{E:Value→Shared→Prop}{s:Shared}
end
section
variable {X:Cx}{pins:List (Addr × Obj)}{σ:St}{H:Hp}{s:Shared}{E:XK}{a:Addr}{cls a0:Value}{B h2:Heap}
end
section
variable {P:Program}{w:World}{K:PySem.W.Frag}{mg:Str→Option Value}{base:Heap}{N:List Str}{qual:Str}{scope:Scope}{f:Addr}{cd:Value}{A:Around}{outer:List Env}{s₀:Shared}{H₀:Hp}{E:XK}
end
section
variable {X:Cx}
end
section
variable {X:Cx}{elt target iter:Expr}{ifs:List Expr}{rest:List Comprehension}{scope:Scope}{pos:Pos}{N':List Str}{ix:List (Option Nat)}{wi:TI}{g:TG}{ts:List TT}{tb:Addr→TS}{E:XK}
end
end L2
namespace L2
open PySem PySem.Spec PyProof.Rows
section
variable {prog:Program}{w:World}{A:Around}{E:Value→Shared→Prop}{s:Shared}
end
section
variable {prog:Program}{w:World}{A:Around}{s:Shared}{R:Result→Shared→Prop}
end
section
variable {prog:Program}{w:World}{A:Around}{E:Value→Shared→Prop}{s:Shared}
end
section
variable {X:Cx}{pins:List (Addr × Obj)}{σ:St}{H H2:Hp}{s:Shared}{h':Heap}
end
end L2
namespace L2
open PySem PySem.Spec PyProof.Rows
end L2
namespace L2
open PySem PySem.Spec PyProof.Rows
section
variable {prog:Program}{w:World}{A:Around}{R:Result→Shared→Prop}{It:Addr}{fp wr:List Addr}{n:Nat}{P:Nat→Value→Prop}{St:Nat→Heap→Prop}
end
section
variable {prog:Program}{w:World}{A:Around}{E:Value→Shared→Prop}{s:Shared}
end
end L2
namespace L2
open PySem PySem.Spec PyProof.Rows
end L2
namespace L2
open PySem PySem.Spec PyProof.Rows
section
variable {t:SetTable}{pl:List Nat}
end
end L2
namespace L2
open PySem PySem.Spec PyProof.Rows
section
variable {t:SetTable}{pl:List Nat}{us:Us}{k:List Int}
end
end L2
namespace L2
open PySem PySem.Spec PyProof.Rows
section
variable {mask:Nat}{pl:List Nat}{us:Us}{k:List Int}
end
end L2
namespace L2
open PySem PySem.Spec PyProof.Rows
section
variable {mask:Nat}{pl:List Nat}{us:Us}
end
end L2
namespace L2
open PySem PySem.Spec PyProof.Rows
section
variable {prog:Program}{w:World}{A:Around}{E:Value→Shared→Prop}{s:Shared}
end
end L2
namespace L2
open PySem PySem.Spec PyProof.Rows
section
variable {prog:Program}{w:World}{A:Around}{E:Value→Shared→Prop}{s:Shared}{a b:Addr}{us:Us}{k:List Int}{ep mask mv:Nat}{pl:List Nat}
end
end L2
namespace L2
open PySem PySem.Spec PyProof.Rows
section
variable {prog:Program}{w:World}{A:Around}{R:Result→Shared→Prop}{I:Addr}{fp wr:List Addr}{G:Array GenState→Array GenState→Prop}{n:Nat}{P:Nat→Value→Prop}{St:Nat→Shared→Prop}
end
section
variable {prog:Program}{w:World}{A:Around}{E:Value→Shared→Prop}{s:Shared}
end
end L2
namespace L2
open PySem PySem.W PySem.Spec PyProof.Rows
section
variable {prog:Program}{w:World}{A:Around}{E:Value→Shared→Prop}{s:Shared}{a:Addr}{us:Us}{ep mask mv:Nat}{pl:List Nat}
end
end L2
namespace L2
open PySem PySem.Spec PySem.W PyProof.Rows
section
variable {prog:Program}{w:World}{A:Around}{E:Value→Shared→Prop}{s:Shared}{a:Addr}{us:Us}{ep mask mv:Nat}{pl:List Nat}
end
section
variable {X:Cx}
end
end L2
namespace L2
open PySem PySem.Spec PyProof.Rows
section
variable {X:Cx}
end
end L2
namespace L2
open PySem PySem.W PyProof.Rows
structure PBs (a₀:Array Keyed)(κ:SortKind)(st:SortSt):Prop where
 perm:(arrOf st).Perm a₀
 kind:kindOf st=κ
 failed:failedOf st=none
theorem PBs.size {a₀:Array Keyed}{κ:SortKind}{st:SortSt}(h:PBs a₀ κ st):(arrOf st).size=a₀.size:=h.perm.size_eq
section
variable {prog:Program}{w:World}{A:Around}{E:Value→Shared→Prop}{s:Shared}{a₀:Array Keyed}{κ:SortKind}{st:SortSt}
end
end L2
namespace L2
open PySem PySem.W PyProof.Rows
section
variable {prog:Program}{w:World}{A:Around}{E:Value→Shared→Prop}{s:Shared}{a₀:Array Keyed}{κ:SortKind}{st:SortSt}
end
end L2
namespace L2
open PySem PySem.W PyProof.Rows
section
variable {a b out:Array Keyed}{i j k:Nat}
end
section
variable {prog:Program}{w:World}{A:Around}{E:Value→Shared→Prop}{s:Shared}{a₀:Array Keyed}{κ:SortKind}{st:SortSt}
end
end L2
namespace L2
open PySem PySem.W PyProof.Rows
section
variable {a b out:Array Keyed}{i j k:Nat}
end
section
variable {prog:Program}{w:World}{A:Around}{E:Value→Shared→Prop}{s:Shared}{a₀:Array Keyed}{κ:SortKind}{st:SortSt}
end
end L2
namespace L2
open PySem PySem.W PyProof.Rows
section
variable {prog:Program}{w:World}{A:Around}{E:Value→Shared→Prop}{s:Shared}{a₀:Array Keyed}{κ:SortKind}{st:SortSt}
end
end L2
namespace L2
open PySem PySem.W PyProof.Rows
section
variable {prog:Program}{w:World}{A:Around}{E:Value→Shared→Prop}{s:Shared}
end
end L2
namespace L2
open PySem PySem.W PyProof.Rows
section
variable {prog:Program}{w:World}{A:Around}{E:Value→Shared→Prop}{s:Shared}{d:Addr}{o:Obj}{es:Array DictEntry}{ep:Nat}
end
section
variable {X:Cx}
end
end L2
namespace L2
open PySem PySem.Spec PyProof.Rows
end L2
namespace L2
open PySem PySem.Spec PyProof.Rows
structure sW (o t:Str)(sc:Scope):Prop where
 kind:sc.kind = .function
 co:sc.isCoroutine=false
 gen:sc.isGenerator=false
 ne:o≠t
 own:sc.names.lookup o=some .local
 far:sc.names.lookup t=some .free
 noc:∀ x∈sc.names,x.2 ≠ .cell
 one:∀ x,sc.names.lookup x=some .free→x=t
noncomputable def cxL (CX:CXT) (P:Program) (w:World) (K:PySem.W.Frag) (mg:Str→Option Value) (base:Heap) (o t:Str) (qual:Str) (scope:Scope) (f:Addr) (cd:Value) (ct:Addr) (A:Around) (outer:List Env) (s:Shared) (H:Hp) (E:XK):Cx where
 prog:=P
 w:=w
 K:=K
 mg:=mg
 base:=base
 A:=A.deeper (PySem.W.envX qual scope s.heap.objs.size f cd [(t,ct)])
 N:=[o,t]
 s₀:=s
 H₀:=H
 env:=PySem.W.envX qual scope s.heap.objs.size f cd [(t,ct)]
 outer:=outer
 stack:=PySem.W.envX qual scope s.heap.objs.size f cd [(t,ct)] :: outer
 ex:=[]
 calm:=true
 fn:=fun _=>false
 pn:=[]
 xe:=fun e s'=>wpAny (model P w) (A.deeper (PySem.W.envX qual scope s.heap.objs.size f cd [(t,ct)])) (leaving (PySem.W.envX qual scope s.heap.objs.size f cd [(t,ct)]) e) (fun _ s''=>CX outer H s E e s'') (fun e' s''=>CX outer H s E e' s'') s'
theorem aBW {CX:CXT}{P:Program}{w:World}{K:PySem.W.Frag}{mg:Str→Option Value}{base:Heap}{o t qual:Str}{scope:Scope}{f ct:Addr}{cd:Value}{A:Around}{outer:List Env}{s:Shared}{H:Hp}{E:XK}{u ut:Value}{x xt:V}{h1:Heap}{tk:Nat}{m:Str→Option Value}
  (S:sW o t scope) (hd:A.handled=none) (e0:aCg P w K mg base A outer s H) (rx:RelV x u) (rt:RelV xt ut) (hc:s.heap.IsCell ct (some ut)) (hcH:H ct=none)
  (hns:h1.Ns s.heap.objs.size m) (hm:m o=some u) (hk:∀ b ob,s.heap.get? b=some ob→h1.get? b=some ob) :
  Inv (cxL CX P w K mg base o t qual scope f cd ct A outer s H E) [] [some x,some xt] H { s with heap:=h1,toks:=tk }:=by
 have noA:∀ b:Addr,b∉(cxL CX P w K mg base o t qual scope f cd ct A outer s H E).ex:=fun b z=>absurd (show b∈([]:List Addr) from z) (by simp)
 have lk:∀ y c,([(t,ct)]:List (Str × Addr)).lookup y=some c→y=t∧c=ct:=fun y c h=>by
  rw [List.lookup_cons] at h
  cases e:(y == t) with
  | true=>rw [e] at h;cases h;exact ⟨eq_of_beq e,rfl⟩
  | false=>rw [e] at h;cases h
 have hc1:h1.IsCell ct (some ut):=let ⟨ob,e1,e2⟩:=hc;⟨ob,hk _ _ e1,e2⟩
 refine ⟨⟨e0.mod,S.kind,rfl,rfl,Nat.le_refl _,fun y z c h1 h2=>?_,fun y hy=>?_,fun y c h _=>(by cases h),fun _=>hd,Around.frames_deeper e0.frames, .inr ⟨rfl,rfl⟩,fun b z=>absurd z (noA b),e0.bs,e0.bsz,fun b _ _=>noA b,fun b z=>absurd z (noA b),e0.funs,e0.frf⟩,
  rfl,e0.bare,Un.kept hk,⟨m,hns,fun i y v h1 h2 h3=>?_⟩,fun y c h=>?_,e0.hok.fresh (Nat.le_refl _),fun y c h=>?_,fun p hp=>absurd (show p∈([]:List (Addr × Obj)) from hp) (by simp),e0.hok.kept hk,rfl⟩
 ·exact (lk y c h1).1.trans (lk z c h2).1.symm
 ·have hy:scope.names.lookup y=some .cell∨scope.names.lookup y=some .free:=hy
  rcases hy with hy | hy
  ·exact absurd rfl (S.noc _ (PySem.mem_of_lookup hy))
  ·have e:=S.one y hy
   subst e
   exact ⟨ct,by show ([(y,ct)]:List (Str × Addr)).lookup y=some ct;rw [List.lookup_cons,beq_self_eq_true]⟩
 ·match i,h1,h2 with
  | 0,h1,h2=>
   cases h1
   cases h2
   exact ⟨u,rx, .inl ⟨S.own,hm⟩⟩
  | 1,h1,h2=>
   cases h1
   cases h2
   exact ⟨ut,rt, .inr ⟨.inr S.far,ct,by show ([(t,ct)]:List (Str × Addr)).lookup t=some ct;rw [List.lookup_cons,beq_self_eq_true],hc1⟩⟩
  | i+2,h1,h2=>simp at h2
 ·obtain ⟨_,rfl⟩:=lk y c h
  exact ⟨_,hc1⟩
 ·obtain ⟨_,rfl⟩:=lk y c h
  exact hcH
theorem aCu {CX:CXT}{P:Program}{w:World}{K:PySem.W.Frag}{mg:Str→Option Value}{base:Heap}{k:Nat}{o t name qual:Str}{params:Arguments}{body:Expr}{scope:Scope}{f ct:Addr}{c':Addr}{pm ctv:Value}{A:Around}{outer:List Env}{s:Shared}{H:Hp}{E:XK}{Q:VK}{u ut:Value}{x xt:V}
  (S:sW o t scope) (hr:Room (k+1) A) (e0:aCg P w K mg base A outer s H) (rx:RelV x u) (rt:RelV xt ut) (hc:s.heap.IsCell ct (some ut)) (hcH:H ct=none)
  (hf:s.heap.get? f=some (PySem.W.kla_obj name qual params body scope [(t,ct)] pm c' ctv)) (hcd:s.heap.CodeRec (.ref c') qual)
  (hb:∀ v,bindArgs (PySem.W.kla_fn name qual params body scope [(t,ct)] pm (.ref c') ctv) ⟨[v],[]⟩=pure [(o,v)])
  (hbody:∃ te,PE (cxL CX P w K mg base o t qual scope f (.ref c') ct A outer s H E) body te∧te [some x,some xt] H Q) :
  codeAny (model P w) A (.call (.ref f) ⟨[u],[]⟩) (CR CX outer P w H s Q E) s:=by
 have lim:s.heap.NoLimit:=e0.mod.nolimit.keeps fun b ob e=>(e0.bs b ob e).1
 refine PySem.W.kla_callFunE hr.depth hf rfl S.co S.gen rfl hcd ?_
 rw [hb u]
 refine wpAny_pure (wpAny_newFunctionEnv S.noc (fun y hy=>by rw [List.mem_singleton.mp hy];exact S.own) (fun h₁ hns hsb=>⟨lim.fresh _ hsb,?_⟩) S.kind)
 show codeAny _ _ (.expr body (PySem.W.envX qual scope s.heap.objs.size f (.ref c') [(t,ct)])) _ _
 have hk₁:∀ b ob,s.heap.get? b=some ob→h₁.get? b=some ob:=fun b ob e=>hsb.extBut b ob (Nat.ne_of_lt (Heap.lt_size e)) (Heap.get?_push_of_some _ e)
 obtain ⟨te,ht,hq⟩:=hbody
 have I:Inv (cxL CX P w K mg base o t qual scope f (.ref c') ct A outer s H E) [] [some x,some xt] H { s with heap:=h₁,toks:=s.toks+1 }:=aBW S hr.hd e0 rx rt hc hcH hns (by simp) hk₁
 refine PySem.W.kla_codeExpr (wpAny_mono (ht [] _ _ H Q I hq) (fun v s' hs=>?_) fun e s' hs=>hs)
 obtain ⟨v',H',J,rv,q⟩:=hs
 exact ⟨v',H',J.os,J.bare,J.base,J.hok,rv,q⟩
end L2
namespace L2
open PySem PySem.Spec PyProof.Rows
noncomputable def aAm (mg:Str→Option Value) (h:Heap):Prop:=∃ bm ob,mg "__builtins__" = some (.ref bm)∧bm≠builtinsNs∧h.get? bm=some ob∧ob.cls = .type "module"∧ob.dict=some builtinsNs∧ob.data = .plain
noncomputable def aCN (c:Addr) (q:Str):HO := .ext fun h=>∃ o vs t,h.get? c=some o∧o.data = .fields vs∧vs[1]?=some (.str q t)
theorem aCC {P:Program}{w:World}{H:Hp}{h:Heap}{c:Addr}{q:Str}(x:h.CodeRec (.ref c) q):ObjOk P w H h c (aCN c q):=by
 obtain ⟨c2,o,vs,t,e,h1,h2,h3⟩:=x
 cases e
 exact ⟨⟨o,vs,t,h1,h2,h3⟩,⟨o,h1⟩,fun a b ⟨o,vs,t,k1,k2,k3⟩ k=>⟨o,vs,t,k _ k1,k2,k3⟩⟩
theorem aAu {P:Program}{w:World}{H:Hp}{h:Heap}{c:Addr}{q:Str}(ok:HOk P w H h)(e:H c=some (aCN c q)):h.CodeRec (.ref c) q:=by
 obtain ⟨⟨o,vs,t,h1,h2,h3⟩,_⟩:=ok c _ e
 exact ⟨c,o,vs,t,rfl,h1,h2,h3⟩
noncomputable def TabS (H:Hp) (P:Addr) (pos:Pos) (q:Str):Prop:=H P=some (.tbl #[])∨∃ c,H P=some (.tbl #[rawInt pos.line,rawInt pos.col, .ref c])∧H c=some (aCN c q)
theorem TabS.same {H H':Hp}{P:Addr}{pos:Pos}{q:Str}(h:TabS H P pos q)(s:Same H H'):TabS H' P pos q:=by
 rcases h with h | ⟨c,h1,h2⟩
 ·exact .inl (s _ _ h)
 ·exact .inr ⟨c,s _ _ h1,s _ _ h2⟩
section
variable {X:Cx}{pins:List (Addr × Obj)}{σ:St}{H:Hp}{s:Shared}{P cc:Addr}
theorem Inv.grown {h':Heap}{t':Nat}{c:Addr}{ps more:Array Value}{q:Str}(I:Inv X pins σ H s)(hP:H P=some (.tbl ps))(hx:Heap.ExtBut P s.heap h')(hge:s.heap.objs.size≤c)(hrec:h'.CodeRec (.ref c) q)(hp:h'.get? P=some (PySem.W.tabObj (ps++more))) :
  Inv X pins σ (upd (upd H c (aCN c q)) P (.tbl (ps++more))) { s with heap:=h',toks:=t' }:=by
 have hc0:H c=none:=I.hok.fresh hge
 have hPc:P≠c:=aM hP hc0
 have nP:∀ {b:Addr},H b=none→b≠P:=fun {b} e z=>by rw [z,hP] at e;cases e
 have nC:∀ {b:Addr} {o:Obj},s.heap.get? b=some o→b≠c:=fun e z=>by subst z;exact absurd (Nat.lt_of_lt_of_le (Heap.lt_size e) hge) (Nat.lt_irrefl _)
 have oth:∀ {b:Addr} {o:HO},H b=some o→b≠P→(upd (upd H c (aCN c q)) P (.tbl (ps++more))) b=some o:=fun {b o} e n=>by
  rw [aP n,aP (aM e hc0)];exact e
 refine I.step (h':=h') (g':=s.gens) (d':=s.drawn) (t':=t') (ch:=[]) (fun _ z=>nomatch z) (fun b o _ _ _ e n=>hx b o (nP n) e) (fun b o _ _ _ e n=>⟨o.slots,hx b o (nP n) e⟩) (fun b o _ e n=>by rw [aP (nP n),aP (nC e)];exact n) (fun b o _ e=>?_) (fun b xs e=>oth e fun z=>by rw [z,hP] at e;cases e) (fun b o u e=>oth e fun z=>by rw [z,hP] at e;cases e) (fun b ps' e=>?_) (fun m hm=>hm.extBut hx (nP I.free)) (fun a o e=>?_) I.bare
 ·by_cases hb:b=P
  ·subst hb;exact ⟨_,hp⟩
  ·exact ⟨o,hx b o hb e⟩
 ·by_cases hb:b=P
  ·subst hb
   rw [hP] at e
   cases e
   exact ⟨more,aD⟩
  ·exact ⟨#[],by rw [oth e hb];simp⟩
 ·by_cases ha:a=P
  ·subst ha
   rw [aD] at e
   cases e
   exact hp
  ·rw [aP ha] at e
   by_cases hac:a=c
   ·subst hac
    rw [aD] at e
    cases e
    exact aCC hrec
   ·rw [aP hac] at e
    refine (I.hok a o e).stay (fun b u hb q=>hx b u (fun z=>?_) q) (fun b hb=>oth hb fun z=>by rw [z,hP] at hb;cases hb) fun b xs hb=>oth hb fun z=>by rw [z,hP] at hb;cases hb
    rcases hb with hb | hb
    ·exact ha (hb.symm.trans z)
    ·rw [z,hP] at hb;cases hb
theorem zZ {params:Arguments}{body:Expr}{scope:Scope}{pos:Pos}{clos:List (Str × Addr)}{Q:Value→Shared→Prop}{E:Value→Shared→Prop}(I:Inv X pins σ H s)(hB:aAm X.mg X.base)(hcode:X.env.code = .ref cc)(hC:PySem.W.CodeHd X.base cc P)(hT:TabS H P pos (X.env.qual ++ "<lambda>"))(hcl:closureFor scope X.env=pure clos)(hdef:defaultsOf params X.env=([],[]))
  (h:∀ (f c:Addr) (ctv:Value) (H':Hp) (s':Shared),Inv X pins σ H' s'→SameX P H H'→TabS H' P pos (X.env.qual ++ "<lambda>")→s'.heap.get? f=some (PySem.W.kla_obj "<lambda>" (X.env.qual ++ "<lambda>") params body scope clos ((X.mg "__name__").getD .none) c ctv)→H' f=none→H' c=some (aCN c (X.env.qual ++ "<lambda>"))→s.heap.objs.size≤f→Q (.ref f) s') :
  wpAny (model X.prog X.w) X.A (eval (.Lambda params body scope pos) X.env) Q E s:=by
 refine PySem.W.kla_eval hdef ?_
 have C:=hC.keeps I.bk
 have hg:s.heap.Ns mainGlobals X.mg:=I.mod.glob.keeps I.bk
 obtain ⟨bm,ob,b1,b2,b3,b4,b5,b6⟩:=hB
 have hPn:∀ {b:Addr} {o:Obj},X.base.get? b=some o→b≠P:=fun {b o} e z=>by
  have:=(I.bs b o e).2
  rw [z] at this
  rcases hT with hT | ⟨c,hT,_⟩ <;> (rw [this] at hT;cases hT)
 have hgP:mainGlobals≠P:=by
  obtain ⟨o,es,ep,e,_⟩:=I.mod.glob
  exact hPn e
 have hbG:bm≠mainGlobals:=fun q=>by
  obtain ⟨o,es,ep,e,hd,_⟩:=I.mod.glob
  rw [q,e] at b3;cases b3;rw [hd] at b6;cases b6
 have BA:s.heap.BuiltinsAt X.mg P:=⟨bm,ob,b1,b2,hbG,hPn b3,I.bk _ _ b3,b4,b5,b6⟩
 rcases hT with hT | ⟨c,hT,hc⟩
 ·have hp:s.heap.get? P=some (PySem.W.tabObj #[]):=I.hok P _ hT
  refine PySem.W.kla_makeFunction hcl I.ok.glob hg hcode C hp trivial rfl hgP BA fun c' ctv h' tk hx hge hlt hrec htb=>?_
  have J:=I.grown (t':=tk) hT hx hge hrec htb
  have J2:=J.kept (t':=tk) (h':=h'.push (PySem.W.kla_obj "<lambda>" (X.env.qual ++ "<lambda>") params body scope clos ((X.mg "__name__").getD .none) c' ctv)) fun b o e=>Heap.get?_push_of_some _ e
  have hc0:H c'=none:=I.hok.fresh hge
  have hPc:c'≠P:=fun z=>by rw [z,hT] at hc0;cases hc0
  refine h _ c' ctv _ _ J2 (fun b o n e=>?_) (.inr ⟨c',aD,?_⟩) (Heap.get?_push_size _ rfl) ?_ ?_ ?_
  ·rw [aP n,aP (aM e hc0)];exact e
  ·rw [aP hPc,aD]
  ·exact J.hok.fresh (Nat.le_refl _)
  ·rw [aP hPc,aD]
  ·exact Nat.le_trans hge (Nat.le_of_lt hlt)
 ·have hp:s.heap.get? P=some (PySem.W.tabObj #[rawInt pos.line,rawInt pos.col, .ref c]):=I.hok P _ hT
  refine PySem.W.kla_makeFunctionHit (cv := .ref c) hcl I.ok.glob hg hcode C hp (by simp [TriplesOk,rawInt]) (by simp [codeAmong,rawInt]) BA fun ctv h' tk hk hsz=>?_
  have J:=I.kept (t':=tk) (h':=h'.push (PySem.W.kla_obj "<lambda>" (X.env.qual ++ "<lambda>") params body scope clos ((X.mg "__name__").getD .none) c ctv)) fun b o e=>Heap.get?_push_of_some _ (hk b o e)
  exact h _ c ctv H _ J (SameX.refl _ _) (.inr ⟨c,hT,hc⟩) (Heap.get?_push_size _ rfl) (I.hok.fresh hsz) hc hsz
end
end L2
namespace L2
open PySem PySem.Spec PyProof.Rows
section
variable {X:Cx}{pins:List (Addr × Obj)}{σ:St}{l f i0 S0:Addr}{us:List Value}{R:Result→Shared→Prop}{fobj:Obj}{H:Hp}
theorem FpOk.turn {s:Shared}{b:Addr}{h':Heap}{t':Nat}(F:FpOk X pins H b)(I:Inv X pins σ H s)(k:∀ c o,c≠b→s.heap.get? c=some o→h'.get? c=some o):Inv X pins σ H { s with heap:=h',toks:=t' }:=I.turned k F.1 F.2.1 F.2.2.2.1 F.2.2.2.2.1 F.2.2.2.2.2
theorem FpOk.at {H':Hp}{b:Addr}(F:FpOk X pins H b)(h:H' b=none):FpOk X pins H' b:=⟨h,F.2⟩
noncomputable def aFe (X:Cx) (pins:List (Addr × Obj)) (σ:St) (H:Hp) (us:List Value) (f:Addr) (fobj:Obj) (kf:Nat→Int):Prop:=
 ∀ i u,us[i]?=some u→∀ (H':Hp) (s':Shared),Inv X pins σ H' s'→Same H H'→s'.heap.get? f=some fobj→H' f=none →
  wpAny (model X.prog X.w) X.A.in1 (call (.ref f) [u]) (fun v s''=>∃ (H'':Hp) (t:Tok),v = .int (kf i) t∧Inv X pins σ H'' s''∧Same H' H''∧∀ b o,FpOk X pins H' b→s'.heap.get? b=some o→s''.heap.get? b=some o∧H'' b=none) (fun _ _=>False) s'
theorem xX (kf:Nat→Int)(hh:X.A.handled=none)(turn:aFe X pins σ H us f fobj kf)(hl:∀ H' s',Inv X pins σ H' s'→Same H H'→s'.heap.IsList l us.toArray)(hz:us.length≤sizeLine)
  (hlI:l≠i0) (hSI:S0≠i0) (hfI:f≠i0) (hfS:f≠S0)
  (hR:∀ i u H' s',us[i]?=some u→(∀ j,j<us.length→kf i≤kf j∧(j<i→kf i<kf j))→Inv X pins σ H' s'→Same H H'→R (.ok (.ret u)) s') :
  ∀ (r j i:Nat) (H':Hp) (s':Shared) (ub:Value) (tb:Tok) (c:Nat),us.length - (j+1)=r→j+1≤us.length→Inv X pins σ H' s'→Same H H'→FpOk X pins H' i0→FpOk X pins H' S0→FpOk X pins H' f→s'.heap.IsListIter i0 l (j+1)→s'.heap.get? S0=some (seqObj "list" #[ub, .int (kf i) tb] c)→s'.heap.get? f=some fobj→us[i]?=some ub→i≤j→(∀ j',j'≤j→kf i≤kf j'∧(j'<i→kf i<kf j')) →
   codeAny (model X.prog X.w) X.A (.builtin "min.loop" ⟨[.ref i0, .ref f, .ref S0],[]⟩) R s':=by
 have hname:(toString "min" ++ toString ".loop" : String)="min.loop":=by decide
 have W:=Walks.list (prog:=X.prog) (w:=X.w) (A:=X.A.in1) hh i0 l hlI us.toArray
 have hsz:us.toArray.size=us.length:=List.size_toArray ..
 intro r
 induction r with
 | zero=>
  intro j i H' s' ub tb c hr hj I sm fI fS fF hit hS hf hub hij hbest
  have hin:j+1=us.length:=by omega
  refine codeAny_builtin PySem.F.entry_min_loop ?_
  rw [Around.under_plainId PySem.F.plain_min_loop _]
  show wpAny _ X.A.in1 (seqItems? (.ref S0) >>= _) _ _ _
  refine wpAny_bind (wpAny_seqItems hS rfl ?_)
  show wpAny _ X.A.in1 (tryCatch (pyNext (.ref i0)) _ >>= _) _ _ _
  refine wpAny_bind (wpAny_tryCatch (W.done _ _ _ ⟨by rw [hsz,← hin];exact hit,hl H' s' I sm⟩ fun h' tk' hk'=>?_))
  have I1:=fI.turn (t':=tk') I fun b o n e=>hk' b o (by simpa using n) e
  have hS':=hk' S0 _ (by simpa using hSI) hS
  have s1:=Heap.SameBut.update h' S0 (Obj.mapSeq fun _=>(#[]:Array Value))
  show wpAny _ X.A.in1 (updateSeq S0 (fun _=>#[]) >>= _) _ _ _
  refine wpAny_bind ?_
  refine wpAny_updateSeq hS' rfl (wpAny_bind (wpAny_letGo (wpAny_pure ?_)))
  exact hR i ub H' _ hub (fun j' hj'=>hbest j' (by omega)) (fS.turn (t':=tk') I1 fun b o n e=>by rw [← e];exact s1.2 b n) sm
 | succ r ih=>
  intro j i H' s' ub tb c hr hj I sm fI fS fF hit hS hf hub hij hbest
  have hlt:j+1<us.length:=by omega
  refine codeAny_builtin PySem.F.entry_min_loop ?_
  rw [Around.under_plainId PySem.F.plain_min_loop _]
  show wpAny _ X.A.in1 (seqItems? (.ref S0) >>= _) _ _ _
  refine wpAny_bind (wpAny_seqItems hS rfl ?_)
  show wpAny _ X.A.in1 (tryCatch (pyNext (.ref i0)) _ >>= _) _ _ _
  refine wpAny_bind (wpAny_tryCatch (W.item (j+1) _ _ _ (by rw [hsz];exact hlt) ⟨hit,hl H' s' I sm⟩ fun v h' tk' hP hst' hk'=>?_))
  have hv:us[j+1]?=some v:=by simpa using hP
  obtain ⟨oI',hoI',hoc,hod⟩:=id hst'.1
  have I1:=fI.turn (t':=tk') I fun b o n e=>hk' b o (by simpa using n) e
  have hS1:=hk' S0 _ (by simpa using hSI) hS
  have hf1:=hk' f _ (by simpa using hfI) hf
  show wpAny _ X.A.in1 (tryCatch (holding [v] (call (.ref f) [v])) _ >>= _) _ _ _
  refine wpAny_bind (wpAny_tryCatch (wpAny_holding (wpAny_mono (turn (j+1) v hv H' _ I1 sm hf1 fF.1) (fun x s'' he=>?_) fun _ _ hF=>hF.elim)))
  obtain ⟨H2,t2,rfl,I2,sm2,kp⟩:=he
  obtain ⟨hS2,nS2⟩:=kp S0 _ fS hS1
  obtain ⟨hf2,nf2⟩:=kp f _ fF hf1
  obtain ⟨hI2,nI2⟩:=kp i0 _ fI hoI'
  have hit2:s''.heap.IsListIter i0 l (j+1+1):=⟨oI',hI2,hoc,hod⟩
  have sm02:=sm.trans sm2
  show wpAny _ X.A.in1 (tryCatch (holding [v, .int (kf (j+1)) t2] (richCompare .Lt (.int (kf (j+1)) t2) (.int (kf i) tb) >>= _)) _ >>= _) _ _ _
  refine wpAny_bind (wpAny_tryCatch (wpAny_holding (wpAny_bind (CmpOf.ints_lt (prog:=X.prog) (w:=X.w) (A:=X.A.in1) (P:=fun i v=>∃ t,v = .int (kf i) t) kf (fun i v h=>h) (j+1) i _ _ _ _ _ ⟨t2,rfl⟩ ⟨tb,rfl⟩ ?_))))
  refine wpAny_bind (wpAny_holding (wpAny_truthy_bool ?_))
  refine wpAny_bind (wpAny_letGo (wpAny_pure ?_))
  by_cases hb':kf (j+1)<kf i
  ·have s1:=Heap.SameBut.update s''.heap S0 (Obj.mapSeq fun _=>#[v, .int (kf (j+1)) t2])
   obtain ⟨c2,hc2⟩:∃ c2,(s''.heap.update S0 (Obj.mapSeq fun _=>#[v, .int (kf (j+1)) t2])).get? S0=some (seqObj "list" #[v, .int (kf (j+1)) t2] c2):=⟨_,get?_update_seq hS2 fun _=>#[v, .int (kf (j+1)) t2]⟩
   simp only [hb',decide_true,if_true]
   refine wpAny_bind ?_
   refine wpAny_updateSeq hS2 rfl (wpAny_bind (wpAny_letGo ?_))
   rw [hname]
   have I3:=(fS.at nS2).turn (t':=s''.toks) I2 fun b o n e=>(s1.2 b n).trans e
   refine wpAny_pure ⟨plainId_quiet PySem.F.plain_min_loop _,ih (j+1) (j+1) H2 _ v t2 c2 (by omega) hlt I3 sm02 (fI.at nI2) (fS.at nS2) (fF.at nf2) ⟨oI',(s1.2 i0 hSI.symm).trans hI2,hoc,hod⟩ hc2 ((s1.2 f hfS).trans hf2) hv (Nat.le_refl _) fun j' hj'=>?_⟩
   by_cases e:j'=j+1
   ·subst e
    exact ⟨by omega,fun _=>by omega⟩
   ·have hb1:=hbest j' (by omega)
    have hb2:=hb1.1
    exact ⟨by omega,fun _=>by omega⟩
  ·simp only [hb',decide_false,Bool.false_eq_true,if_false]
   refine wpAny_bind (wpAny_letGo ?_)
   rw [hname]
   refine wpAny_pure ⟨plainId_quiet PySem.F.plain_min_loop _,ih (j+1) i H2 _ ub tb c (by omega) hlt I2 sm02 (fI.at nI2) (fS.at nS2) (fF.at nf2) hit2 hS2 hf2 hub (by omega) fun j' hj'=>?_⟩
   by_cases e:j'=j+1
   ·subst e
    exact ⟨by omega,fun _=>by omega⟩
   ·exact hbest j' (by omega)
theorem aFA (kf:Nat→Int){s:Shared}{Q:Value→Shared→Prop}{E:Value→Shared→Prop}(hh:X.A.handled=none)(I:Inv X pins σ H s)(fF:FpOk X pins H f)(hf:s.heap.get? f=some fobj)(turn:aFe X pins σ H us f fobj kf)(hl:∀ H' s',Inv X pins σ H' s'→Same H H'→s'.heap.IsList l us.toArray)(hz:us.length≤sizeLine)(hne:0<us.length)
  (hQ:∀ i u H' s',us[i]?=some u→(∀ j,j<us.length→kf i≤kf j∧(j<i→kf i<kf j))→Inv X pins σ H' s'→Same H H'→Q u s') :
  wpAny (model X.prog X.w) X.A (call (.builtin "min") [.ref l] [(Str.ofString "key", .ref f)]) Q E s:=by
 have hname:(toString "min" ++ toString ".loop" : String)="min.loop":=by decide
 have hls:=hl H s I (Same.refl _)
 obtain ⟨ol,hol,_⟩:=id hls
 have hll:l<s.heap.objs.size:=Heap.lt_size hol
 have hfl:f<s.heap.objs.size:=Heap.lt_size hf
 refine kmk_tree PySem.F.kind_min PySem.F.plain_min PySem.F.entry_min (kmk_min_key _ _) ?_
 show wpAny _ X.A.in1 (Builtin.Builtins.bindParams "min" ["key","default"] 0 ⟨[],[(Str.ofString "key", .ref f)]⟩ >>= _) _ _ s
 refine wpAny_bind (wpAny_of_eq (show Builtin.Builtins.bindParams "min" ["key","default"] 0 ⟨[],[(Str.ofString "key", .ref f)]⟩=pure [some (.ref f),none] from rfl) ?_)
 refine wpAny_bind (wpAny_pure ?_)
 refine wpAny_bind (wpAny_pyIter_list hls ?_)
 refine wpAny_bind (wpAny_newList ?_ (Nat.zero_le _))
 rw [hname]
 have hS:(s.heap.push { cls := .type "list_iterator",data := .fields #[.ref l, .int 0 0] }).objs.size=s.heap.objs.size+1:=size_push' ..
 have hlI:l≠s.heap.objs.size:=Nat.ne_of_lt hll
 have hSI:(s.heap.push { cls := .type "list_iterator",data := .fields #[.ref l, .int 0 0] }).objs.size≠s.heap.objs.size:=by rw [hS];exact Nat.ne_of_gt (Nat.lt_succ_self _)
 have hfI:f≠s.heap.objs.size:=Nat.ne_of_lt hfl
 have hfS:f≠(s.heap.push { cls := .type "list_iterator",data := .fields #[.ref l, .int 0 0] }).objs.size:=by rw [hS];exact Nat.ne_of_lt (Nat.lt_succ_of_lt hfl)
 refine wpAny_pure ⟨plainId_quiet PySem.F.plain_min_loop _,?_⟩
 have old:∀ b o,s.heap.get? b=some o→((s.heap.push { cls := .type "list_iterator",data := .fields #[.ref l, .int 0 0] }).push (seqObj "list" #[] 0)).get? b=some o:=fun b o e=>Heap.get?_push_of_some _ (Heap.get?_push_of_some _ e)
 have IH:Inv X pins σ H { s with heap:=(s.heap.push { cls := .type "list_iterator",data := .fields #[.ref l, .int 0 0] }).push (seqObj "list" #[] 0) }:=I.kept (t':=s.toks) old
 have gI:((s.heap.push { cls := .type "list_iterator",data := .fields #[.ref l, .int 0 0] }).push (seqObj "list" #[] 0)).get? s.heap.objs.size=some { cls := .type "list_iterator",data := .fields #[.ref l, .int 0 0] }:=
  Heap.get?_push_of_some _ (Heap.get?_push_size _ rfl)
 have gS:((s.heap.push { cls := .type "list_iterator",data := .fields #[.ref l, .int 0 0] }).push (seqObj "list" #[] 0)).get? (s.heap.push { cls := .type "list_iterator",data := .fields #[.ref l, .int 0 0] }).objs.size=some (seqObj "list" #[] 0):=Heap.get?_push_size _ rfl
 have fI:FpOk X pins H s.heap.objs.size:=I.fpOk (Nat.le_refl _) (I.hok.fresh (Nat.le_refl _))
 have fS:FpOk X pins H (s.heap.push { cls := .type "list_iterator",data := .fields #[.ref l, .int 0 0] }).objs.size:=I.fpOk (by rw [hS];omega) (I.hok.fresh (by rw [hS];omega))
 have gf:=old f _ hf
 generalize (s.heap.push { cls := .type "list_iterator",data := .fields #[.ref l, .int 0 0] }).objs.size=S0 at *
 generalize hh0:(s.heap.push { cls := .type "list_iterator",data := .fields #[.ref l, .int 0 0] }).push (seqObj "list" #[] 0)=h0 at *
 have W:=Walks.list (prog:=X.prog) (w:=X.w) (A:=X.A.in1) hh s.heap.objs.size l hlI us.toArray
 have hsz:us.toArray.size=us.length:=List.size_toArray ..
 refine codeAny_builtin PySem.F.entry_min_loop ?_
 rw [Around.under_plainId PySem.F.plain_min_loop _]
 show wpAny _ X.A.in1 (seqItems? (.ref _) >>= _) _ _ _
 refine wpAny_bind (wpAny_seqItems gS rfl ?_)
 show wpAny _ X.A.in1 (tryCatch (pyNext (.ref s.heap.objs.size)) _ >>= _) _ _ _
 refine wpAny_bind (wpAny_tryCatch (W.item 0 _ _ _ (by rw [hsz];exact hne) ⟨⟨_,gI,rfl,rfl⟩,hl H _ IH (Same.refl _)⟩ fun v h' tk' hP hst' hk'=>?_))
 have hv:us[0]?=some v:=by simpa using hP
 obtain ⟨oI',hoI',hoc,hod⟩:=id hst'.1
 have I1:=fI.turn (t':=tk') IH fun b o n e=>hk' b o (by simpa using n) e
 have hS1:=hk' S0 _ (by simpa using hSI) gS
 have hf1:=hk' f _ (by simpa using hfI) gf
 show wpAny _ X.A.in1 (tryCatch (holding [v] (call (.ref f) [v])) _ >>= _) _ _ _
 refine wpAny_bind (wpAny_tryCatch (wpAny_holding (wpAny_mono (turn 0 v hv H _ I1 (Same.refl _) hf1 fF.1) (fun x s'' he=>?_) fun _ _ hF=>hF.elim)))
 obtain ⟨H2,t2,rfl,I2,sm2,kp⟩:=he
 obtain ⟨hS2,nS2⟩:=kp S0 _ fS hS1
 obtain ⟨hf2,nf2⟩:=kp f _ fF hf1
 obtain ⟨hI2,nI2⟩:=kp _ _ fI hoI'
 have s1:=Heap.SameBut.update s''.heap S0 (Obj.mapSeq fun _=>#[v, .int (kf 0) t2])
 obtain ⟨c2,hc2⟩:∃ c2,(s''.heap.update S0 (Obj.mapSeq fun _=>#[v, .int (kf 0) t2])).get? S0=some (seqObj "list" #[v, .int (kf 0) t2] c2):=⟨_,get?_update_seq hS2 fun _=>#[v, .int (kf 0) t2]⟩
 show wpAny _ X.A.in1 (updateSeq S0 (fun _=>#[v, .int (kf 0) t2]) >>= _) _ _ _
 refine wpAny_bind ?_
 refine wpAny_updateSeq hS2 rfl ?_
 rw [hname]
 have I3:=(fS.at nS2).turn (t':=s''.toks) I2 fun b o n e=>(s1.2 b n).trans e
 refine wpAny_pure ⟨plainId_quiet PySem.F.plain_min_loop _,xX (R:=fun r s'=>match r with | .ok (.ret v)=>Q v s' | .ok _=>False | .error e=>E e s') kf hh turn hl hz hlI hSI hfI hfS (fun i u H' s' h1 h2 h3 h4=>hQ i u H' s' h1 h2 h3 h4) _ 0 0 H2 _ v t2 c2 rfl hne I3 sm2 (fI.at nI2) (fS.at nS2) (fF.at nf2) ⟨oI',(s1.2 _ hSI.symm).trans hI2,hoc,hod⟩ hc2 ((s1.2 f hfS).trans hf2) hv (Nat.le_refl _) fun j' hj'=>?_⟩
 have e:j'=0:=by omega
 subst e
 exact ⟨by omega,fun h=>absurd h (Nat.lt_irrefl _)⟩
end
end L2
namespace L2
open PySem PySem.Spec PyProof.Rows
noncomputable def aBk (K:PySem.W.Frag) (P:Addr) (lpos:Pos) (q:Str) (sp:Sp) (j:Nat) (ta:TA):TE:=fun σ H Q=>ta σ H fun vs H1=>∃ (l:Addr) (as:List Addr) (vt:V) (kf:Nat→Int),vs=[.ref l]∧SqL K H1 l (as.map V.ref)∧as≠[]∧σ[j]?=some (some vt)∧TabS H1 P lpos q ∧
 (∀ i a,as[i]?=some a→∀ H2,SameX P H1 H2→sp [vt, .ref a] H2 (fun y H3=>y = .int (kf i)∧Same H2 H3) E0)∧∀ i a H2,as[i]?=some a→(∀ j,j<as.length→kf i≤kf j)→SameX P H1 H2→TabS H2 P lpos q→Q (.ref a) H2
theorem oG:∀ {as:List Addr} {us:List Value},Vals (as.map V.ref) us→us=as.map Value.ref
 | [],_, .nil=>rfl
 | a :: as,_, .cons r t=>by
  obtain rfl:=oG t
  obtain rfl:_=Value.ref a:=r
  rfl
section
variable {X:Cx}
theorem zP {k:Nat}{sp:Sp}{o t:Str}{j:Nat}{P cc ct:Addr}{a:Expr}{ta:TA}{params:Arguments}{body:Expr}{scope:Scope}{lpos kpos np pos:Pos}
  (hc:X.calm=true) (hr:Room (k+2) X.A) (hg:Gl X "min") (hm:X.mg "min" = none) (ha:PA X [a] ta)
  (hB:aAm X.mg X.base) (hcode:X.env.code = .ref cc) (hC:PySem.W.CodeHd X.base cc P) (S:sW o t scope)
  (hct:X.env.cells.lookup t=some ct) (hkt:X.env.kindOf t=some .cell) (hN:X.N[j]?=some t) (hcl:closureFor scope X.env=pure [(t,ct)]) (hdef:defaultsOf params X.env=([],[]))
  (hbind:∀ (q:Str) (pm ctv:Value) (c:Addr) (v:Value),bindArgs (PySem.W.kla_fn "<lambda>" q params body scope [(t,ct)] pm (.ref c) ctv) ⟨[v],[]⟩=pure [(o,v)])
  (hbody:∀ (A:Around) (outer:List Env) (s:Shared) (H:Hp) (f c:Addr),Room k (A.deeper (PySem.W.envX (X.env.qual ++ "<lambda>") scope s.heap.objs.size f (.ref c) [(t,ct)]))→PE (cxL CX0 X.prog X.w X.K X.mg X.base o t (X.env.qual ++ "<lambda>") scope f (.ref c) ct A outer s H E0) body (aW sp [] E0 (aB (aF 1) (aB (aF 0) aQ))))
  (he:backTo pos (starEach [a] X.env)=(false,eval a X.env) :: backTo pos (starEach [] X.env):=by rfl) :
  PE X (.Call (.Name "min" np) [a] [⟨some "key", .Lambda params body scope lpos,kpos⟩] pos) (aBk X.K P lpos (X.env.qual ++ "<lambda>") sp j ta):=by
 intro pins s σ H Q I h
 refine wpAny_Call_Name_kw (kJ I hg hm (u := .builtin "min") rfl ?_)
 refine callWith_kw (wpAny_mono (ha pos pins s σ H _ I h) (fun us s1 ⟨vs,H1,I1,r1,q1⟩=>?_) fun _ _ e=>e) he (by rw [he];rfl)
 obtain ⟨l,as,vt,kf,rfl,hl,hne,hvt,hT,hk,q⟩:=q1
 obtain ⟨u1,rfl,ru⟩:=pB r1
 obtain rfl:u1=Value.ref l:=ru
 refine kws_cons (zZ I1 hB hcode hC hT hcl hdef fun f c ctv H2 s2 I2 sx2 hT2 hf nf hcO hge=>kws_nil ?_)
 show wpAny _ _ (call (.builtin "min") [.ref l] [(Str.ofString "key", .ref f)]) _ _ _
 have hPl:∀ {H':Hp},SameX P H1 H'→SqL X.K H' l (as.map V.ref):=fun {H'} sx=>by
  rcases hl with (hl | ⟨ob,hl⟩) | hl
  ·exact .inl (.inl (sx _ _ (fun z=>by rcases hT with hT | ⟨_,hT,_⟩ <;> (rw [z,hT] at hl;cases hl)) hl))
  ·exact .inl (.inr ⟨ob,sx _ _ (fun z=>by rcases hT with hT | ⟨_,hT,_⟩ <;> (rw [z,hT] at hl;cases hl)) hl⟩)
  ·exact .inr hl
 have isl:∀ (H':Hp) (s':Shared),Inv X pins σ H' s'→Same H2 H'→s'.heap.IsList l (as.map Value.ref).toArray:=fun H' s' I' m=>by
  obtain ⟨its,rv,pl,_⟩:=I'.list (hPl (sx2.trans m.x))
  obtain rfl:=oG rv
  exact pl.isList
 have hz:as.length≤sizeLine:=by
  obtain ⟨its,rv,pl,hz⟩:=I2.list (hPl sx2)
  rw [List.length_map] at hz
  exact hz
 have fF:FpOk X pins H2 f:=I1.fpOk hge nf
 refine aFA (us:=as.map Value.ref) kf (I2.ok.hd hc) I2 fF hf (fun i u hu H' s' I' m hf' nf'=>?_) isl (by rw [List.length_map];exact hz) (by rw [List.length_map];exact List.length_pos_iff.mpr hne) fun i u H' s' hu hb I' m=>?_
 ·rw [List.getElem?_map] at hu
  cases ea:as[i]? with
  | none=>rw [ea] at hu;cases hu
  | some b=>
   rw [ea] at hu
   obtain rfl:Value.ref b=u:=Option.some.inj hu
   have hvis:Vis X.env.scope t := .inr (.inl hkt)
   obtain ⟨mm,hns,names⟩:=I'.loc
   obtain ⟨ut,rt,lk⟩:=names j t vt hN hvt hvis
   have cellF:s'.heap.IsCell ct (some ut):=by
    rcases lk with ⟨z,_⟩ | ⟨_,c2,e1,e2⟩
    ·rw [hkt] at z;cases z
    ·rw [hct] at e1;cases e1;exact e2
   have e0:aCg X.prog X.w X.K X.mg X.base X.A.in1 X.stack s' H':=⟨I'.env0.frames,I'.env0.mod,I'.env0.bs,I'.env0.bsz,I'.env0.funs,I'.env0.frf,I'.env0.hok,I'.env0.bare⟩
   have hrun:=aCu (CX:=CX0) (k:=k) (E:=E0) (Q:=fun y H3=>y = .int (kf i)∧Same H' H3) (x := .ref b) (xt:=vt) S hr.in1 e0 rfl rt cellF (I'.freeC t ct hct) hf' (aAu I'.hok (m _ _ hcO)) (hbind _ _ _ _) ⟨_,hbody X.A.in1 X.stack s' H' f c (hr.in1.deeper _),⟨_,rfl,_,rfl,hk i b ea H' (sx2.trans m.x)⟩⟩
   refine wpAny_call (codeAny_mono hrun fun r s'' hq=>?_)
   cases r with
   | error e=>exact hq.elim
   | ok fl=>
    cases fl with
    | next=>exact False.elim hq
    | brk=>exact False.elim hq
    | cont=>exact False.elim hq
    | ret v=>
     obtain ⟨y,H3,os,bare,un,hok,rv,ey,sm⟩:=hq
     subst ey
     obtain ⟨tk,rfl⟩:∃ tk,v = .int (kf i) tk:=rv
     refine ⟨H3,tk,rfl,I'.call' os un hok bare (fun b z=>absurd z (by simp)),sm,fun b ob F e=>⟨un.keep b ob e F.1 (fun z=>?_) (by simp),un.free b ob e F.1 (by simp)⟩⟩
     rcases List.mem_cons.mp (I'.stkSub b z) with z | z
     ·exact F.2.1 z
     ·exact F.2.2.1 z
 ·rw [List.getElem?_map] at hu
  cases ea:as[i]? with
  | none=>rw [ea] at hu;cases hu
  | some b=>
   rw [ea] at hu
   obtain rfl:Value.ref b=u:=Option.some.inj hu
   exact ⟨.ref b,H',I',rfl,q i b H' ea (fun j hj=>(hb j (by rw [List.length_map];exact hj)).1) (sx2.trans m.x) (hT2.same m)⟩
end
end L2
namespace L2
open PySem PySem.Spec PyProof.Rows
theorem yF {P:Program}{w:World}{K:PySem.W.Frag}{mg mb:Str→Option Value}{CX:CXT}{k:Nat}{fa a cc Pt:Addr}{fd:FuncData}{x:Str}{sp:Sp}{s₁:Shared}{vs:List Value}{ns:List Int}
  (KX:K.In s₁.heap) (hns:s₁.heap.Ns mainGlobals mg) (hb:s₁.heap.Ns builtinsNs mb) (hbb:∀ x:Str,x≠"__name__"→mb x=bootBuiltins x) (hlim:s₁.heap.NoLimit) (hg:s₁.gens=#[])
  (ha:s₁.heap.get? a=some { cls := .type "list",data := .seq vs.toArray }) (hi:IntsAre vs ns) (hl:ns.length≤sizeLine) (hr:Room k callerA)
  (hbm:aAm mg s₁.heap) (hC:PySem.W.CodeHd s₁.heap cc Pt) (hPt:s₁.heap.get? Pt=some (PySem.W.tabObj #[])) (hKP:K.lookup Pt=none)
  (F:∀ base:Heap,K.In base→base.Ns mainGlobals mg→aAm mg base→PySem.W.CodeHd base cc Pt→FnOk P w K mg base CX k fa fd [x] sp) (hbind:∀ (s:Shared) (u:Value),BindsTo s fd ⟨[u],[]⟩ [(x,u)])
  (hsp:∀ H:Hp,H Pt=some (.tbl #[])→SqL K H a (ns.map V.int)→sp [.ref a] H (fun v _=>v = .bl true) fun _ _ _=>False)
  (hCX:∀ H e s',CX [] H s₁ (fun _ _ _=>False) e s'→False) :
  codeAny (model P w) callerA (.call (.ref fa) ⟨[.ref a],[]⟩) (fun r s'=>r = .ok (.ret (.bool true))∧OldK s₁.heap s'.heap∧s'.os=s₁.os∧AllBare s'.gens) s₁:=by
 have rv:=qZ hi
 have lenV:=hi.length
 have haP:a≠Pt:=fun e=>by rw [e,hPt] at ha;cases ha
 have core:∀ H:Hp,(∀ b,H b=none∨(b=Pt∧H b=some (.tbl #[]))∨∃ o xs,H b=some (.frz o (.lst xs)))→H Pt=some (.tbl #[])→SqL K H a (ns.map V.int)→HOk P w H s₁.heap→(∀ b,H b≠none→b=a∨b=Pt)→(H a≠none→K.lookup a=none) →
   codeAny (model P w) callerA (.call (.ref fa) ⟨[.ref a],[]⟩) (fun r s'=>r = .ok (.ret (.bool true))∧OldK s₁.heap s'.heap∧s'.os=s₁.os∧AllBare s'.gens) s₁:=by
  intro H hO hT hS hok hA hK
  have base_of:∀ {b:Addr} {o:Obj},s₁.heap.get? b=some o→H b=none→(wN s₁.heap H).get? b=some o:=fun e n=>aAX e n
  have noA:∀ {b:Addr} {o:Obj},s₁.heap.get? b=some o→(∀ its n,o.data ≠ .seq its n)→(∀ fs,o.data ≠ .fields fs)→H b=none:=fun {b o} e d1 d2=>by
   cases q:H b with
   | none=>rfl
   | some u=>
    rcases hA b (by rw [q];simp) with e' | e'
    ·subst e';rw [ha] at e;cases e;exact absurd rfl (d1 _ _)
    ·subst e';rw [hPt] at e;cases e;exact absurd rfl (d2 _)
  have nsK:∀ {b:Addr} {m:Str→Option Value},s₁.heap.Ns b m→(wN s₁.heap H).Ns b m:=fun {b m} ⟨o,es,ep,e,d,r⟩=>⟨o,es,ep,base_of e (noA e (fun _ _ z=>by rw [d] at z;cases z) (fun _ z=>by rw [d] at z;cases z)),d,r⟩
  have hKb:K.In (wN s₁.heap H):=fun b o e=>base_of (KX b o e) (by
   cases q:H b with
   | none=>rfl
   | some u=>
    rcases hA b (by rw [q];simp) with e' | e'
    ·subst e';rw [hK (by rw [q];simp)] at e;cases e
    ·subst e';rw [hKP] at e;cases e)
  have hM:Mod K mg (wN s₁.heap H):=⟨hKb,nsK hns,⟨mb,nsK hb,hbb⟩,let ⟨mc,h1,h2⟩:=hlim;⟨mc,nsK h1,h2⟩⟩
  have hbm':aAm mg (wN s₁.heap H):=let ⟨bm,ob,b1,b2,b3,b4,b5,b6⟩:=hbm;⟨bm,ob,b1,b2,base_of b3 (noA b3 (fun _ _ z=>by rw [b6] at z;cases z) (fun _ z=>by rw [b6] at z;cases z)),b4,b5,b6⟩
  have hC':PySem.W.CodeHd (wN s₁.heap H) cc Pt:=by
   obtain ⟨o,vs',file,tf,flags,tg,inF,text,tt,e1,e2,r⟩:=hC
   refine ⟨o,vs',file,tf,flags,tg,inF,text,tt,base_of e1 ?_,e2,r⟩
   cases q:H cc with
   | none=>rfl
   | some u=>
    rcases hA cc (by rw [q];simp) with e' | e'
    ·rw [e',ha] at e1;cases e1;exact absurd (Value.type.inj (show Value.type "list" = Value.type "code" from e2)) (by decide)
    ·rw [e',hPt] at e1;cases e1;cases e2
  have e0:aCg P w K mg (wN s₁.heap H) callerA [] s₁ H:=⟨rfl,hM,fun b o e=>aCw e,Nat.le_of_eq (wU _ _),trivial,fun b hb=>absurd (show b∈([]:List Addr) from hb) (by simp),hok, .of_eq hg⟩
  refine codeAny_mono ((F _ hKb (nsK hns) hbm' hC').run callerA [] s₁ H ⟨[.ref a],[]⟩ [.ref a] [.ref a] _ _ hr e0 (hbind s₁ (.ref a)) (.cons rfl .nil) (hsp H hT hS)) fun r s' h=>?_
  cases r with
  | error e=>exact (hCX H e s' h).elim
  | ok fl=>
   cases fl with
   | next=>exact False.elim h
   | brk=>exact False.elim h
   | cont=>exact False.elim h
   | ret u=>
    obtain ⟨v,H',os,bare,un,hok',r',q⟩:=h
    have q':v = .bl true:=q
    subst q'
    obtain rfl:u=Value.bool true:=r'
    have tabT:s₁.heap.TableAt cc Pt #[]:=hC.tab hPt
    refine ⟨rfl,⟨fun b o e=>?_,fun b o e=>?_⟩,os,bare⟩
    ·cases q:H b with
     | none=>exact .inl (un.keep b o e q (by intro z;exact absurd (show b∈([]:List Addr) from z) (by simp)) (by simp))
     | some u=>
      rcases hO b with z | ⟨ez,z⟩ | ⟨ob,xs,z⟩
      ·rw [q] at z;cases z
      ·subst ez
       obtain ⟨more,e2⟩:=un.tbls b #[] z
       have e3:s'.heap.get? b=some { cls := .none,data := .fields (#[]++more) }:=hok' b _ e2
       rw [hPt] at e
       cases e
       exact .inr (.inl ⟨tabT.isCodeTable,rfl,#[],more,rfl,e3⟩)
      ·have z2:=un.frzs b ob _ z
       obtain ⟨e1,_⟩:=hok b _ z
       obtain ⟨e2,_⟩:=hok' b _ z2
       rw [e] at e1;cases e1
       exact .inl e2
    ·exact un.there b o e (by simp)
 cases hk:K.lookup a with
 | some o=>
  have e:=KX a o hk
  rw [ha] at e
  cases e
  refine core (fun b=>if b=Pt then some (.tbl #[]) else none) (fun b=>?_) (if_pos rfl) (.inr ⟨_,vs.toArray,_,hk,rfl,rfl,rfl,by rw [List.size_toArray,lenV];exact hl,by simpa using rv⟩) (fun b u z=>?_) (fun b z=>?_) fun z=>absurd (if_neg haP) z
  ·by_cases hb:b=Pt
   ·exact .inr (.inl ⟨hb,if_pos hb⟩)
   ·exact .inl (if_neg hb)
  ·by_cases hb:b=Pt
   ·have z':=(if_pos hb).symm.trans z
    cases z'
    subst hb
    exact hPt
   ·have z':=(if_neg hb).symm.trans z
    cases z'
  ·by_cases hb:b=Pt
   ·exact .inr hb
   ·exact absurd (if_neg hb) z
 | none=>
  refine core (fun b=>if b=a then some (.frz { cls := .type "list",data := .seq vs.toArray } (.lst (ns.map V.int))) else if b=Pt then some (.tbl #[]) else none) (fun b=>?_) (by rw [if_neg (Ne.symm haP),if_pos rfl]) (.inl (.inr ⟨{ cls := .type "list",data := .seq vs.toArray },if_pos rfl⟩)) (fun b u z=>?_) (fun b z=>?_) fun _=>hk
  ·by_cases hb:b=a
   ·exact .inr (.inr ⟨_,_,if_pos hb⟩)
   ·by_cases hb2:b=Pt
    ·exact .inr (.inl ⟨hb2,by rw [if_neg hb,if_pos hb2]⟩)
    ·exact .inl (by rw [if_neg hb,if_neg hb2])
  ·by_cases hb:b=a
   ·have z':=(if_pos hb).symm.trans z
    cases z'
    subst hb
    exact ⟨ha,by rw [List.length_map];exact hl,vs,_,rv,ha⟩
   ·have z:=(if_neg hb).symm.trans z
    by_cases hb2:b=Pt
    ·have z':=(if_pos hb2).symm.trans z
     cases z'
     subst hb2
     exact hPt
    ·have z':=(if_neg hb2).symm.trans z
     cases z'
  ·by_cases hb:b=a
   ·exact .inl hb
   ·by_cases hb2:b=Pt
    ·exact .inr hb2
    ·exact absurd (by rw [if_neg hb,if_neg hb2]) z
theorem aAz {l:PySem.W.OpenLaw}{n k:Nat}{q:Program}{loose:List Str}{XP:(Str→Option Value)→Heap→Prop}{YP:World→Heap→Prop}{d:DefRec}{K:Params→PySem.W.Frag}{CX:World→CXT}{sp:World→Sp}{x:Str}{cc Pt:Addr}
  (hn:l.most=some n) (hn2:n≤sizeLine) (hdf:d.params.defaults=[]) (hr:Room k callerA)
  (hY:∀ (w:World) (h:Heap),YP w h→(K w.params).In h) (hYt:∀ (w:World) (h:Heap),YP w h→h.get? Pt=some (PySem.W.tabObj #[])) (hCd:∀ w:World,PySem.W.codeHdIn (K w.params) cc Pt=true) (hKP:∀ w:World,(K w.params).lookup Pt=none)
  (F:∀ (w:World) (mg:Str→Option Value) (fa:Addr) (h:Heap),(K w.params).In h→h.Ns mainGlobals mg→mg d.name=some (.ref fa) →
   ∃ fd:FuncData,(∀ (s:Shared) (u:Value),BindsTo s fd ⟨[u],[]⟩ [(x,u)]) ∧
    ∀ base:Heap,(K w.params).In base→base.Ns mainGlobals mg→aAm mg base→PySem.W.CodeHd base cc Pt→FnOk l.prog w (K w.params) mg base (CX w) k fa fd [x] (sp w))
  (hsp:∀ (w:World) (H:Hp) (a:Addr) (ns:List Int),ns.length≤n→H Pt=some (.tbl #[])→SqL (K w.params) H a (ns.map V.int)→sp w [.ref a] H (fun v _=>v = .bl true) fun _ _ _=>False)
  (hCX:∀ (w:World) (H:Hp) (s:Shared) (e:Value) (s':Shared),CX w [] H s (fun _ _ _=>False) e s'→False) :
  PySem.W.WalkO q loose XP YP l.row.toRowW d [] (fun f vs=>PySem.call f vs):=by
 refine Att.attach_call hn hdf fun w s₀ s₁ mg mb fa o pm cd doc a vs ns G Y ho hd hcd hmg hobj hints hlen hg=>?_
 have KX:=hY w _ Y
 obtain ⟨fd,hb,hF⟩:=F w mg fa _ KX G.T.g hmg
 exact yF KX G.T.g G.T.b G.T.builtins G.T.nolimit hg hobj hints (Nat.le_trans hlen hn2) hr G.T.bmain (PySem.W.codeHd_of_K KX (hCd w)) (hYt w _ Y) (hKP w) hF hb (fun H hT hS=>hsp w H a ns hlen hT hS) fun H e s'=>hCX w H s₁ e s'
end L2
namespace L2
open PySem PySem.Spec PyProof.Rows
theorem Fun.okL {P:Program}{w:World}{K:PySem.W.Frag}{mg:Str→Option Value}{base:Heap}{x qual:Str}{st:Stmt}{f cc:Addr}{fd:FuncData}{N ps:List Str}{k:Nat}{sp:Sp}(F:Fun K x qual st f fd)(hfc:fd.code = .ref cc)(S:bA N ps (aG st))(len:∀ vs H Q E,sp vs H Q E→vs.length=ps.length)
  (hbody:∀ (A:Around) (outer:List Env) (s:Shared) (H:Hp) (vs:List V) (Q:VK) (E:XK),Room k (A.deeper (envOfC qual (aG st) s.heap.objs.size f (.ref cc)))→sp vs H Q E →
   ∃ t,PSs (aCp CX0 P w K mg base N qual (aG st) f (.ref cc) A outer s H E).nox (aT st) t∧t { nx:=fun _ H'=>Q .non H',rt:=Q } (bB N vs) H):FnOk P w K mg base CX0 (k+1) f fd ps sp:=by
 obtain ⟨oc,od,kV,doc,pm,an,cdv,ct,osl,rfl,lk,hcd⟩:=F.ex
 obtain rfl:cdv = .ref cc:=hfc
 refine aDs lk hcd S len fun A outer s H vs Q E hr hsp=>?_
 obtain ⟨t,h,q⟩:=hbody A outer s H vs Q E hr hsp
 exact ⟨t,h.nox,q⟩
theorem aEe {t:Str}{l:List (Str × NameKind)}(h:∀ p∈l,p.2 = .free→p.1=t):∀ x,l.lookup x=some .free→x=t:=fun x e=>h _ (PySem.mem_of_lookup e) rfl
end L2
namespace K60
open PySem L2
noncomputable def top (i:Nat):Stmt:=PySem.Challenge.pw_homeround_k60_whole_settled_ones.main.body.getD i (.Pass ⟨0,0,0,0⟩)
section
variable {P:Program}{w:World}{K:PySem.W.Frag}{mg:Str→Option Value}{base:Heap}{f:Addr}{fd:FuncData}
theorem lL:bA ["thing"] ["thing"] (aG (top 1)):=⟨rfl,rfl,rfl,by decide +kernel,rfl,by decide +kernel,by decide +kernel⟩
noncomputable def nX (K:PySem.W.Frag)   : TS:=(aS (eD (vR (tCB (aDu K) (aB (aF 0) (aB (tC (.ty "int")) aQ))) (aCe (tCB (aDu K) (aB (aF 0) (aB (tC (.ty "bool")) aQ)))))) aO)
theorem sY (F:Fun K "is_whole" "is_whole" (top 1) f fd)(B:jO mg)      {sp:Sp}(len:∀ vs H Q E,sp vs H Q E→vs.length=1)
  (rd:∀ vs H Q E,sp vs H Q E→nX K   { nx:=fun _ H'=>Q .non H',rt:=Q } (bB ["thing"] vs) H):FnOk P w K mg base CX0 1 f fd ["thing"] sp:=by
 refine F.ok lL len (fun cdv A outer s H vs Q E hr h=>⟨_,?_,rd vs H Q E h⟩)
 have nd:=lL.nd
 exact (@aC _ _ _ _ _ (@bJ _ _ _ _ (rH (aR (lY (K:=K) rfl) rfl B.isi wE (@aA _ _ _ _ _ _ (pv 0) (@aA _ _ _ _ _ _ (rS (v := .ty "int") rfl B.int xU rfl) aE))) (kL (aBA (aR (lY (K:=K) rfl) rfl B.isi wE (@aA _ _ _ _ _ _ (pv 0) (@aA _ _ _ _ _ _ (rS (v := .ty "bool") rfl B.bool aCb rfl) aE))))))) aI)
theorem jJ:bA ["thing"] ["thing"] (aG (top 2)):=⟨rfl,rfl,rfl,by decide +kernel,rfl,by decide +kernel,by decide +kernel⟩
noncomputable def kQ (K:PySem.W.Frag)  (fL:Sp):TS:=(aS (eD (vR (tCB (aDu K) (aB (aF 0) (aB (tC (.ty "tuple")) aQ))) (tCB (aCO K) (aB (eV [none] (uQ K (aF 0)) (aN 0) [] fun acc=>(dO (aW fL [] E0 (aB (aF 0) aQ)) acc)) aQ)))) aO)
theorem pW (F:Fun K "are_wholes" "are_wholes" (top 2) f fd)(B:jO mg)    {fL:Sp}(kF:Def P w K mg base "is_whole" 1 ["thing"] fL)  {sp:Sp}(len:∀ vs H Q E,sp vs H Q E→vs.length=1)
  (rd:∀ vs H Q E,sp vs H Q E→kQ K  fL { nx:=fun _ H'=>Q .non H',rt:=Q } (bB ["thing"] vs) H):FnOk P w K mg base CX0 2 f fd ["thing"] sp:=by
 refine F.ok jJ len (fun cdv A outer s H vs Q E hr h=>⟨_,?_,rd vs H Q E h⟩)
 have nd:=jJ.nd
 exact (@aC _ _ _ _ _ (@bJ _ _ _ _ (rH (aR (lY (K:=K) rfl) rfl B.isi wE (@aA _ _ _ _ _ _ (pv 0) (@aA _ _ _ _ _ _ (rS (v := .ty "tuple") rfl B.tuple iP rfl) aE))) (kL (aR (mI (K:=K) rfl rfl) rfl B.all yX (cP (eK (N':=["part"]) (ix:=[none]) rfl rfl rfl (gA (K:=K) rfl (pv 0)) (fun _ _ _=>(bE (i:=0) (show (["part"]:List Str).Nodup from by decide +kernel) rfl (Or.inl rfl))) (fun _ _ _ => .nil) (fun _ _ _ _=>(dC rfl (aX (kF.mono (by decide)) hr rfl (@aA _ _ _ _ _ _ (pv 0) aE)) rfl))) aE))))) aI)
theorem lX:bA ["table","thing"] ["table","thing"] (aG (top 4)):=⟨rfl,rfl,rfl,by decide +kernel,rfl,by decide +kernel,by decide +kernel⟩
noncomputable def oA (K:PySem.W.Frag)  (dM:Sp):TS:=(aS (mY (zN (tB (aW dM [] E0 (aB (aF 1) aQ)))) (aS (eD (tC (.bl false))) aO) aO) (aS (eD (vR (tOp (sP K) (tSl (mZ K) (aF 1) bR (dU (tC (.int 1)))) (rR (aB (tC (.int 0)) aQ))) (tOp (sP K) (tCB (lP K) (aB (aF 1) aQ)) (tCB (aAd K) (aB (tCB aEV (aB (tCB (oY K) (aB (aF 0) aQ)) aQ)) aQ))))) aO))
theorem sE (F:Fun K "is_round" "is_round" (top 4) f fd)(B:jO mg)    {dM:Sp}(gE:Def P w K mg base "are_wholes" 2 ["thing"] dM)  {sp:Sp}(len:∀ vs H Q E,sp vs H Q E→vs.length=2)
  (rd:∀ vs H Q E,sp vs H Q E→oA K  dM { nx:=fun _ H'=>Q .non H',rt:=Q } (bB ["table","thing"] vs) H):FnOk P w K mg base CX0 3 f fd ["table","thing"] sp:=by
 refine F.ok lX len (fun cdv A outer s H vs Q E hr h=>⟨_,?_,rd vs H Q E h⟩)
 have nd:=lX.nd
 exact (@aC _ _ _ _ _ (@iQ _ _ _ _ _ _ _ _ (tU (zL (aX (gE.mono (by decide)) hr rfl (@aA _ _ _ _ _ _ (pv 1) aE)))) (@aC _ _ _ _ _ (@bJ _ _ _ _ kW) aI) aI) (@aC _ _ _ _ _ (@bJ _ _ _ _ (rH (dD (iZ (K:=K) rfl hr) (bZ (iB (K:=K) rfl) (pv 1) cT (cO aK)) (@eC _ _ _ _ _ (@bF _ _ _ _ _ _ _ aK aE)) (bQ _)) (kL (dD (iZ (K:=K) rfl hr) (aR (gC (K:=K) rfl) rfl B.sorted lG (@aA _ _ _ _ _ _ (pv 1) aE)) (cM (kC (K:=K) rfl rfl) rfl B.list sD (@bI _ _ _ _ _ _ _ _ (cM qY rfl B.range uL (@bI _ _ _ _ _ _ _ _ (aR (bL (K:=K) rfl) rfl B.len dJ (@aA _ _ _ _ _ _ (pv 0) aE)) aE)) aE)) (bQ _))))) aI))
theorem qO:bA ["table","round_","followers"] ["table","round_"] (aG (top 5)):=⟨rfl,rfl,rfl,by decide +kernel,rfl,by decide +kernel,by decide +kernel⟩
noncomputable def tX (K:PySem.W.Frag)   : TS:=(aS (dB (tOp (bD K) (tSl (mZ K) (aF 1) (dU (tC (.int 1))) bR) (tSl (mZ K) (aF 1) bR (dU (tC (.int 1))))) (aN 2)) (aS (eD (tCB (aEB K) (aB (eV [none,none,some 0] (aEi K (aB (aF 1) (aB (aF 2) aQ))) (aBr K 2 (iF (aN 0) (iF (aN 1) aBH))) [] fun acc=>(dO (tOp (cQ K) (tOp (cQ K) (aF 2) (aF 0)) (aF 1)) acc)) aQ))) aO))
theorem yK (F:Fun K "length" "length" (top 5) f fd)(B:jO mg)      {sp:Sp}(len:∀ vs H Q E,sp vs H Q E→vs.length=2)
  (rd:∀ vs H Q E,sp vs H Q E→tX K   { nx:=fun _ H'=>Q .non H',rt:=Q } (bB ["table","round_","followers"] vs) H):FnOk P w K mg base CX0 1 f fd ["table","round_"] sp:=by
 refine F.ok qO len (fun cdv A outer s H vs Q E hr h=>⟨_,?_,rd vs H Q E h⟩)
 have nd:=qO.nd
 exact (@aC _ _ _ _ _ (@bO _ _ 2 _ _ _ _ nd rfl (Or.inl rfl) (@bK _ _ _ _ _ _ _ _ (bC (K:=K) rfl) (bZ (iB (K:=K) rfl) (pv 1) (cO aK) cT) (bZ (iB (K:=K) rfl) (pv 1) cT (cO aK))) (by rfl) (by first | exact .inl rfl | exact .inr rfl | assumption)) (@aC _ _ _ _ _ (@bJ _ _ _ _ (aR (qV (K:=K) rfl rfl) rfl B.sum aBw (cP (eK (N':=["one","other","table"]) (ix:=[none,none,some 0]) rfl rfl rfl (wS (K:=K) rfl rfl B.zip (@aA _ _ _ _ _ _ (pv 1) (@aA _ _ _ _ _ _ (pv 2) aE))) (fun _ _ _=>(lN (K:=K) rfl rfl (cS (bE (i:=0) (show (["one","other","table"]:List Str).Nodup from by decide +kernel) rfl (Or.inl rfl)) (cS (bE (i:=1) (show (["one","other","table"]:List Str).Nodup from by decide +kernel) rfl (Or.inl rfl)) mN)))) (fun _ _ _ => .nil) (fun _ _ _ _=>(dC rfl (@cL _ _ _ _ _ _ _ (bH (K:=K) rfl) (@cL _ _ _ _ _ _ _ (bH (K:=K) rfl) (pv 2) (pv 0) (fun _ _=>rfl)) (pv 1) (fun _ _=>rfl)) rfl))) aE))) aI))
theorem oE:bA ["one","other"] ["one","other"] (aG (top 8)):=⟨rfl,rfl,rfl,by decide +kernel,rfl,by decide +kernel,by decide +kernel⟩
noncomputable def rB (K:PySem.W.Frag)  (cB:Sp):TS:=(aS (eD (tOp (aFy K false) (aF 1) (aW cB [] E0 (aB (aF 0) aQ)))) aO)
theorem uT (F:Fun K "is_move" "is_move" (top 8) f fd)(B:jO mg)    {cB:Sp}(dN:Def P w K mg base "moves_of" 2 ["round_"] cB)  {sp:Sp}(len:∀ vs H Q E,sp vs H Q E→vs.length=2)
  (rd:∀ vs H Q E,sp vs H Q E→rB K  cB { nx:=fun _ H'=>Q .non H',rt:=Q } (bB ["one","other"] vs) H):FnOk P w K mg base CX0 3 f fd ["one","other"] sp:=by
 refine F.ok oE len (fun cdv A outer s H vs Q E hr h=>⟨_,?_,rd vs H Q E h⟩)
 have nd:=oE.nd
 exact (@aC _ _ _ _ _ (@bJ _ _ _ _ (dD (aBI (K:=K) rfl hr) (pv 1) (aX (dN.mono (by decide)) hr rfl (@aA _ _ _ _ _ _ (pv 0) aE)) rfl)) aI)
theorem mL:bA ["round_","found","stop","start"] ["round_"] (aG (top 9)):=⟨rfl,rfl,rfl,by decide +kernel,rfl,by decide +kernel,by decide +kernel⟩
noncomputable def oK (K:PySem.W.Frag)  (cC:Sp):TS:=(aS (dB (rT aQ) (aN 1)) (aS (rQ (rP (aB (tC (.int 2)) (aB (tOp (bD K) (tCB (oY K) (aB (aF 0) aQ)) (tC (.int 1))) aQ))) (aN 2) (aS (rQ (rP (aB (tC (.int 1)) (aB (aF 2) aQ))) (aN 3) (aS (oX (tBM K "list" (pS K) (aF 1) (aB (aW cC [] E0 (aB (aF 0) (aB (aF 3) (aB (aF 2) aQ)))) aQ))) aO)) aO)) (aS (eD (eV [none,some 0] (uQ K (aF 1)) (aN 0) [(eY (tOp (aCP K) (aF 0) (aF 1)))] fun acc=>(dO (aF 0) acc))) aO)))
theorem tE (F:Fun K "moves_of" "moves_of" (top 9) f fd)(B:jO mg)    {cC:Sp}(cU:Def P w K mg base "moves_of_stretch" 1 ["round_","start","stop"] cC)  {sp:Sp}(len:∀ vs H Q E,sp vs H Q E→vs.length=1)
  (rd:∀ vs H Q E,sp vs H Q E→oK K  cC { nx:=fun _ H'=>Q .non H',rt:=Q } (bB ["round_","found","stop","start"] vs) H):FnOk P w K mg base CX0 2 f fd ["round_"] sp:=by
 refine F.ok mL len (fun cdv A outer s H vs Q E hr h=>⟨_,?_,rd vs H Q E h⟩)
 have nd:=mL.nd
 exact (@aC _ _ _ _ _ (@bO _ _ 1 _ _ _ _ nd rfl (Or.inl rfl) (@fT _ _ _ _ aE) (by rfl) (by first | exact .inl rfl | exact .inr rfl | assumption)) (@aC _ _ _ _ _ (iW PassesOwn.never rfl (iJ rfl B.range (@bF _ _ _ _ _ _ _ aK (@fJ _ _ _ _ _ _ _ _ (@bK _ _ _ _ _ _ _ _ (bC (K:=K) rfl) (aR (bL (K:=K) rfl) rfl B.len dJ (@aA _ _ _ _ _ _ (pv 0) aE)) aK) aE))) (bE (i:=2) nd rfl (Or.inl rfl)) (@aC _ _ _ _ _ (iW PassesOwn.never rfl (iJ rfl B.range (@bF _ _ _ _ _ _ _ aK (@aA _ _ _ _ _ _ (pv 2) aE))) (bE (i:=3) nd rfl (Or.inl rfl)) (@aC _ _ _ _ _ (oR (rK (K:=K) rfl PySem.F.plainAttrs_list PySem.F.slot_list_extend PySem.F.type_list_extend (vM (K:=K) rfl) (pv 1) (@bI _ _ _ _ _ _ _ _ (aX (cU.mono (by decide)) hr rfl (@aA _ _ _ _ _ _ (pv 0) (@aA _ _ _ _ _ _ (pv 3) (@aA _ _ _ _ _ _ (pv 2) aE)))) aE))) aI)) aI)) (@aC _ _ _ _ _ (@bJ _ _ _ _ (eK (N':=["other","round_"]) (ix:=[none,some 0]) rfl rfl rfl (gA (K:=K) rfl (pv 1)) (fun _ _ _=>(bE (i:=0) (show (["other","round_"]:List Str).Nodup from by decide +kernel) rfl (Or.inl rfl))) (fun _ _ _=>(.cons (cH (tN (K:=K) rfl hr) (pv 0) (pv 1) (bQ _)) .nil)) (fun _ _ _ _=>(dC rfl (pv 0) rfl)))) aI)))
theorem dS:bA ["round_","start","stop","stretch","found","rest","at"] ["round_","start","stop"] (aG (top 10)):=⟨rfl,rfl,rfl,by decide +kernel,rfl,by decide +kernel,by decide +kernel⟩
noncomputable def eE (K:PySem.W.Frag)   : TS:=(aS (dB (tSl (mZ K) (aF 0) (dU (aF 1)) (dU (aF 2))) (aN 3)) (aS (dB (rT (aB (tOp (bD K) (tOp (bD K) (tSl (mZ K) (aF 0) bR (dU (aF 1))) (aCQ K (aF 3))) (tSl (mZ K) (aF 0) (dU (aF 2)) bR)) aQ)) (aN 4)) (aS (mY (eY (tOp yLe (tCB (oY K) (aB (aF 3) aQ)) (tC (.int 3)))) (aS (dB (tOp (bD K) (tSl (mZ K) (aF 0) bR (dU (aF 1))) (tSl (mZ K) (aF 0) (dU (aF 2)) bR)) (aN 5)) (aS (rQ (rP (aB (tC (.int 1)) (aB (tOp (bD K) (tCB (oY K) (aB (aF 5) aQ)) (tC (.int 1))) aQ))) (aN 6) (aS (oX (tBM K "list" hV (aF 4) (aB (tOp (bD K) (tOp (bD K) (tSl (mZ K) (aF 5) bR (dU (aF 6))) (aF 3)) (tSl (mZ K) (aF 5) (dU (aF 6)) bR)) aQ))) (aS (oX (tBM K "list" hV (aF 4) (aB (tOp (bD K) (tOp (bD K) (tSl (mZ K) (aF 5) bR (dU (aF 6))) (aCQ K (aF 3))) (tSl (mZ K) (aF 5) (dU (aF 6)) bR)) aQ))) aO))) aO)) aO) (aS (eD (aF 4)) aO))))
theorem iA (F:Fun K "moves_of_stretch" "moves_of_stretch" (top 10) f fd)(B:jO mg){tk_LONGEST_MOVED:Tok}(G_LONGEST_MOVED:mg "LONGEST_MOVED" = some (.int 3 tk_LONGEST_MOVED))     {sp:Sp}(len:∀ vs H Q E,sp vs H Q E→vs.length=3)
  (rd:∀ vs H Q E,sp vs H Q E→eE K   { nx:=fun _ H'=>Q .non H',rt:=Q } (bB ["round_","start","stop","stretch","found","rest","at"] vs) H):FnOk P w K mg base CX0 1 f fd ["round_","start","stop"] sp:=by
 refine F.ok dS len (fun cdv A outer s H vs Q E hr h=>⟨_,?_,rd vs H Q E h⟩)
 have nd:=dS.nd
 exact (@aC _ _ _ _ _ (@bO _ _ 3 _ _ _ _ nd rfl (Or.inl rfl) (bZ (iB (K:=K) rfl) (pv 0) (cO (pv 1)) (cO (pv 2))) (by rfl) (by first | exact .inl rfl | exact .inr rfl | assumption)) (@aC _ _ _ _ _ (@bO _ _ 4 _ _ _ _ nd rfl (Or.inl rfl) (@fT _ _ _ _ (@fJ _ _ _ _ _ _ _ _ (@bK _ _ _ _ _ _ _ _ (bC (K:=K) rfl) (@bK _ _ _ _ _ _ _ _ (bC (K:=K) rfl) (bZ (iB (K:=K) rfl) (pv 0) cT (cO (pv 1))) (wI (K:=K) rfl (pv 3))) (bZ (iB (K:=K) rfl) (pv 0) (cO (pv 2)) cT)) aE)) (by rfl) (by first | exact .inl rfl | exact .inr rfl | assumption)) (@aC _ _ _ _ _ (@iQ _ _ _ _ _ _ _ _ (cH aET (aR (bL (K:=K) rfl) rfl B.len dJ (@aA _ _ _ _ _ _ (pv 3) aE)) (wL rfl G_LONGEST_MOVED ⟨_,rfl⟩) (bQ _)) (@aC _ _ _ _ _ (@bO _ _ 5 _ _ _ _ nd rfl (Or.inl rfl) (@bK _ _ _ _ _ _ _ _ (bC (K:=K) rfl) (bZ (iB (K:=K) rfl) (pv 0) cT (cO (pv 1))) (bZ (iB (K:=K) rfl) (pv 0) (cO (pv 2)) cT)) (by rfl) (by first | exact .inl rfl | exact .inr rfl | assumption)) (@aC _ _ _ _ _ (iW PassesOwn.never rfl (iJ rfl B.range (@bF _ _ _ _ _ _ _ aK (@fJ _ _ _ _ _ _ _ _ (@bK _ _ _ _ _ _ _ _ (bC (K:=K) rfl) (aR (bL (K:=K) rfl) rfl B.len dJ (@aA _ _ _ _ _ _ (pv 5) aE)) aK) aE))) (bE (i:=6) nd rfl (Or.inl rfl)) (@aC _ _ _ _ _ (oR (rK (K:=K) rfl PySem.F.plainAttrs_list PySem.F.slot_list_append PySem.F.type_list_append iK (pv 4) (@fJ _ _ _ _ _ _ _ _ (@bK _ _ _ _ _ _ _ _ (bC (K:=K) rfl) (@bK _ _ _ _ _ _ _ _ (bC (K:=K) rfl) (bZ (iB (K:=K) rfl) (pv 5) cT (cO (pv 6))) (pv 3)) (bZ (iB (K:=K) rfl) (pv 5) (cO (pv 6)) cT)) aE))) (@aC _ _ _ _ _ (oR (rK (K:=K) rfl PySem.F.plainAttrs_list PySem.F.slot_list_append PySem.F.type_list_append iK (pv 4) (@fJ _ _ _ _ _ _ _ _ (@bK _ _ _ _ _ _ _ _ (bC (K:=K) rfl) (@bK _ _ _ _ _ _ _ _ (bC (K:=K) rfl) (bZ (iB (K:=K) rfl) (pv 5) cT (cO (pv 6))) (wI (K:=K) rfl (pv 3))) (bZ (iB (K:=K) rfl) (pv 5) (cO (pv 6)) cT)) aE))) aI))) aI)) aI) (@aC _ _ _ _ _ (@bJ _ _ _ _ (pv 4)) aI))))
theorem fR:bA ["table","round_","own"] ["table","round_"] (aG (top 11)):=⟨rfl,rfl,rfl,by decide +kernel,rfl,by decide +kernel,by decide +kernel⟩
noncomputable def gB (K:PySem.W.Frag)  (bN:Sp) (cB:Sp):TS:=(aS (dB (aW bN [] E0 (aB (aF 0) (aB (aF 1) aQ))) (aN 2)) (aS (eD (eV [none,some 0,some 2] (uQ K (aW cB [] E0 (aB (aF 1) aQ))) (aN 0) [(eY (tOp yLt (aW bN [] E0 (aB (aF 1) (aB (aF 0) aQ))) (aF 2)))] fun acc=>(dO (aF 0) acc))) aO))
theorem kS (F:Fun K "shorter_moves" "shorter_moves" (top 11) f fd)(B:jO mg)    {bN:Sp}(cV:Def P w K mg base "length" 1 ["table","round_"] bN){cB:Sp}(dN:Def P w K mg base "moves_of" 2 ["round_"] cB)  {sp:Sp}(len:∀ vs H Q E,sp vs H Q E→vs.length=2)
  (rd:∀ vs H Q E,sp vs H Q E→gB K  bN cB { nx:=fun _ H'=>Q .non H',rt:=Q } (bB ["table","round_","own"] vs) H):FnOk P w K mg base CX0 3 f fd ["table","round_"] sp:=by
 refine F.ok fR len (fun cdv A outer s H vs Q E hr h=>⟨_,?_,rd vs H Q E h⟩)
 have nd:=fR.nd
 exact (@aC _ _ _ _ _ (@bO _ _ 2 _ _ _ _ nd rfl (Or.inr rfl) (aX (cV.mono (by decide)) hr rfl (@aA _ _ _ _ _ _ (pv 0) (@aA _ _ _ _ _ _ (pv 1) aE))) (by rfl) (by first | exact .inl rfl | exact .inr rfl | assumption)) (@aC _ _ _ _ _ (@bJ _ _ _ _ (eK (N':=["other","table","own"]) (ix:=[none,some 0,some 2]) rfl rfl rfl (gA (K:=K) rfl (aX (dN.mono (by decide)) hr rfl (@aA _ _ _ _ _ _ (pv 1) aE))) (fun _ _ _=>(bE (i:=0) (show (["other","table","own"]:List Str).Nodup from by decide +kernel) rfl (Or.inl rfl))) (fun _ _ _=>(.cons (cH qX (aX (cV.mono (by decide)) hr rfl (@aA _ _ _ _ _ _ (pv 1) (@aA _ _ _ _ _ _ (pv 0) aE))) (pv 2) (bQ _)) .nil)) (fun _ _ _ _=>(dC rfl (pv 0) rfl)))) aI))
theorem jK:bA ["table","round_"] ["table","round_"] (aG (top 12)):=⟨rfl,rfl,rfl,by decide +kernel,rfl,by decide +kernel,by decide +kernel⟩
noncomputable def kK (K:PySem.W.Frag)  (aU:Sp):TS:=(aS (eD (tOp (sP K) (aW aU [] E0 (aB (aF 0) (aB (aF 1) aQ))) (rT aQ))) aO)
theorem pA (F:Fun K "is_settled" "is_settled" (top 12) f fd)(B:jO mg)    {aU:Sp}(bP:Def P w K mg base "shorter_moves" 3 ["table","round_"] aU)  {sp:Sp}(len:∀ vs H Q E,sp vs H Q E→vs.length=2)
  (rd:∀ vs H Q E,sp vs H Q E→kK K  aU { nx:=fun _ H'=>Q .non H',rt:=Q } (bB ["table","round_"] vs) H):FnOk P w K mg base CX0 4 f fd ["table","round_"] sp:=by
 refine F.ok jK len (fun cdv A outer s H vs Q E hr h=>⟨_,?_,rd vs H Q E h⟩)
 have nd:=jK.nd
 exact (@aC _ _ _ _ _ (@bJ _ _ _ _ (dD (iZ (K:=K) rfl hr) (aX (bP.mono (by decide)) hr rfl (@aA _ _ _ _ _ _ (pv 0) (@aA _ _ _ _ _ _ (pv 1) aE))) (@fT _ _ _ _ aE) (bQ _))) aI)
theorem mO:bA ["table","round_","found","shorter"] ["table","round_"] (aG (top 13)):=⟨rfl,rfl,rfl,by decide +kernel,rfl,by decide +kernel,by decide +kernel⟩
noncomputable def dX:Pos:=match (show Option PySem.Stmt from (aT (top 13))[2]?) with
 | some (PySem.Stmt.While _ (PySem.Stmt.Expr (PySem.Expr.Call _ [PySem.Expr.Call _ _ [⟨_,PySem.Expr.Lambda _ _ _ p,_⟩] _] _ _) _ :: _) _ _)=>p
 | _=>⟨0,0,0,0⟩
noncomputable def nO (K:PySem.W.Frag) (Pt:Addr)  (bN:Sp) (aU:Sp):TS:=(aS (dB (rT (aB (aF 1) aQ)) (aN 2)) (aS (dB (aW aU [] E0 (aB (aF 0) (aB (aF 1) aQ))) (aN 3)) (aS (tZ (aEj K (aF 3)) (aS (oX (tBM K "list" hV (aF 2) (aB (aBk K Pt dX (("bettered" ++ ".<locals>.") ++ "<lambda>") bN 0 (aB (aF 3) aQ)) aQ))) (aS (dB (aW aU [] E0 (aB (aF 0) (aB (tOp (cQ K) (aF 2) (tUn aCy (tC (.int 1)))) aQ))) (aN 3)) aO))) (aS (eD (aF 2)) aO))))
theorem rZ (F:Fun K "bettered" "bettered" (top 13) f fd)(B:jO mg){cc Pt:Addr}(HB:aAm mg base)(HC:PySem.W.CodeHd base cc Pt)(hfc:fd.code = .ref cc)    {bN:Sp}(cV:Def P w K mg base "length" 1 ["table","round_"] bN){aU:Sp}(bP:Def P w K mg base "shorter_moves" 3 ["table","round_"] aU)  {sp:Sp}(len:∀ vs H Q E,sp vs H Q E→vs.length=2)
  (rd:∀ vs H Q E,sp vs H Q E→nO K Pt  bN aU { nx:=fun _ H'=>Q .non H',rt:=Q } (bB ["table","round_","found","shorter"] vs) H):FnOk P w K mg base CX0 4 f fd ["table","round_"] sp:=by
 refine F.okL hfc mO len (fun A outer s H vs Q E hr h=>⟨_,?_,rd vs H Q E h⟩)
 have nd:=mO.nd
 exact (@aC _ _ _ _ _ (@bO _ _ 2 _ _ _ _ nd rfl (Or.inl rfl) (@fT _ _ _ _ (@aA _ _ _ _ _ _ (pv 1) aE)) (by rfl) (by first | exact .inl rfl | exact .inr rfl | assumption)) (@aC _ _ _ _ _ (@bO _ _ 3 _ _ _ _ nd rfl (Or.inl rfl) (aX (bP.mono (by decide)) hr rfl (@aA _ _ _ _ _ _ (pv 0) (@aA _ _ _ _ _ _ (pv 1) aE))) (by rfl) (by first | exact .inl rfl | exact .inr rfl | assumption)) (@aC _ _ _ _ _ (pD PassesOwn.never (wA (K:=K) rfl (pv 3) (fun _=>rfl)) (@aC _ _ _ _ _ (oR (rK (K:=K) rfl PySem.F.plainAttrs_list PySem.F.slot_list_append PySem.F.type_list_append iK (pv 2) (@bI _ _ _ _ _ _ _ _ (zP (k:=1) (o:="other") (t:="table") (j:=0) (P:=Pt) (cc:=cc) rfl (hr.mono (by decide)) (by rfl) B.min (@aA _ _ _ _ _ _ (pv 3) aE) HB (by rfl) HC (by exact ⟨rfl,rfl,rfl,by decide,rfl,rfl,by decide +kernel,aEe (by decide +kernel)⟩) (by rfl) (by rfl) (by rfl) (by rfl) (by rfl) (by intros;rfl) (fun A outer s H f c hrL=>aX (cV.mono (by decide)) hrL rfl (@aA _ _ _ _ _ _ (pv 1) (@aA _ _ _ _ _ _ (pv 0) aE))) (by rfl)) aE))) (@aC _ _ _ _ _ (@bO _ _ 3 _ _ _ _ nd rfl (Or.inl rfl) (aX (bP.mono (by decide)) hr rfl (@aA _ _ _ _ _ _ (pv 0) (@cI _ _ _ _ _ _ _ (@cL _ _ _ _ _ _ _ (bH (K:=K) rfl) (pv 2) (tD mD aK) (fun _ _=>rfl)) aE))) (by rfl) (by first | exact .inl rfl | exact .inr rfl | assumption)) aI))) (@aC _ _ _ _ _ (@bJ _ _ _ _ (pv 2)) aI))))
theorem fX:bA ["table","some","steps"] ["table","some"] (aG (top 14)):=⟨rfl,rfl,rfl,by decide +kernel,rfl,by decide +kernel,by decide +kernel⟩
noncomputable def gR (K:PySem.W.Frag)  (bG:Sp) (cJ:Sp):TS:=(aS (mY (eY (tOp (sP K) (aF 1) (rT aQ))) (aS (eD (tC (.bl false))) aO) aO) (aS (dB (eV [none,none,some 0] (aEi K (aB (aF 1) (aB (tSl (mZ K) (aF 1) (dU (tC (.int 1))) bR) aQ))) (aBr K 2 (iF (aN 0) (iF (aN 1) aBH))) [] fun acc=>(dO (aW cJ [] E0 (aB (aF 2) (aB (aF 0) (aB (aF 1) aQ)))) acc)) (aN 2)) (aS (eD (vR (tCB (aCO K) (aB (aF 2) aQ)) (aW bG [] E0 (aB (aF 0) (aB (tOp (cQ K) (aF 1) (tUn aCy (tC (.int 1)))) aQ))))) aO)))
theorem lD (F:Fun K "are_bettered" "are_bettered" (top 14) f fd)(B:jO mg)    {bG:Sp}(bY:Def P w K mg base "is_settled" 4 ["table","round_"] bG){cJ:Sp}(dE:Def P w K mg base "is_shorter_move" 4 ["table","one","other"] cJ)  {sp:Sp}(len:∀ vs H Q E,sp vs H Q E→vs.length=2)
  (rd:∀ vs H Q E,sp vs H Q E→gR K  bG cJ { nx:=fun _ H'=>Q .non H',rt:=Q } (bB ["table","some","steps"] vs) H):FnOk P w K mg base CX0 5 f fd ["table","some"] sp:=by
 refine F.ok fX len (fun cdv A outer s H vs Q E hr h=>⟨_,?_,rd vs H Q E h⟩)
 have nd:=fX.nd
 exact (@aC _ _ _ _ _ (@iQ _ _ _ _ _ _ _ _ (cH (iZ (K:=K) rfl hr) (pv 1) (@fT _ _ _ _ aE) (bQ _)) (@aC _ _ _ _ _ (@bJ _ _ _ _ kW) aI) aI) (@aC _ _ _ _ _ (kB (i:=2) nd rfl (Or.inl rfl) (N':=["one","other","table"]) (ix:=[none,none,some 0]) rfl rfl rfl (wS (K:=K) rfl rfl B.zip (@aA _ _ _ _ _ _ (pv 1) (@cI _ _ _ _ _ _ _ (bZ (iB (K:=K) rfl) (pv 1) (cO aK) cT) aE))) (fun _ _ _=>(lN (K:=K) rfl rfl (cS (bE (i:=0) (show (["one","other","table"]:List Str).Nodup from by decide +kernel) rfl (Or.inl rfl)) (cS (bE (i:=1) (show (["one","other","table"]:List Str).Nodup from by decide +kernel) rfl (Or.inl rfl)) mN)))) (fun _ _ _ => .nil) (fun _ _ _ _=>(dC rfl (aX (dE.mono (by decide)) hr rfl (@aA _ _ _ _ _ _ (pv 2) (@aA _ _ _ _ _ _ (pv 0) (@aA _ _ _ _ _ _ (pv 1) aE)))) rfl))) (@aC _ _ _ _ _ (@bJ _ _ _ _ (rH (aR (mI (K:=K) rfl rfl) rfl B.all yX (@aA _ _ _ _ _ _ (pv 2) aE)) (kL (aX (bY.mono (by decide)) hr rfl (@aA _ _ _ _ _ _ (pv 0) (@cI _ _ _ _ _ _ _ (@cL _ _ _ _ _ _ _ (bH (K:=K) rfl) (pv 1) (tD mD aK) (fun _ _=>rfl)) aE)))))) aI)))
theorem eI:bA ["table","one","other"] ["table","one","other"] (aG (top 15)):=⟨rfl,rfl,rfl,by decide +kernel,rfl,by decide +kernel,by decide +kernel⟩
noncomputable def fA (K:PySem.W.Frag)  (gN:Sp) (bN:Sp):TS:=(aS (eD (vR (tOp yLt (aW bN [] E0 (aB (aF 0) (aB (aF 2) aQ))) (aW bN [] E0 (aB (aF 0) (aB (aF 1) aQ)))) (aW gN [] E0 (aB (aF 1) (aB (aF 2) aQ))))) aO)
theorem iT (F:Fun K "is_shorter_move" "is_shorter_move" (top 15) f fd)(B:jO mg)    {gN:Sp}(mW:Def P w K mg base "is_move" 3 ["one","other"] gN){bN:Sp}(cV:Def P w K mg base "length" 1 ["table","round_"] bN)  {sp:Sp}(len:∀ vs H Q E,sp vs H Q E→vs.length=3)
  (rd:∀ vs H Q E,sp vs H Q E→fA K  gN bN { nx:=fun _ H'=>Q .non H',rt:=Q } (bB ["table","one","other"] vs) H):FnOk P w K mg base CX0 4 f fd ["table","one","other"] sp:=by
 refine F.ok eI len (fun cdv A outer s H vs Q E hr h=>⟨_,?_,rd vs H Q E h⟩)
 have nd:=eI.nd
 exact (@aC _ _ _ _ _ (@bJ _ _ _ _ (rH (dD qX (aX (cV.mono (by decide)) hr rfl (@aA _ _ _ _ _ _ (pv 0) (@aA _ _ _ _ _ _ (pv 2) aE))) (aX (cV.mono (by decide)) hr rfl (@aA _ _ _ _ _ _ (pv 0) (@aA _ _ _ _ _ _ (pv 1) aE))) (bQ _)) (kL (aX (mW.mono (by decide)) hr rfl (@aA _ _ _ _ _ _ (pv 1) (@aA _ _ _ _ _ _ (pv 2) aE)))))) aI)
theorem lV:bA ["table","rests","floors"] ["table"] (aG (top 18)):=⟨rfl,rfl,rfl,by decide +kernel,rfl,by decide +kernel,by decide +kernel⟩
noncomputable def oB (K:PySem.W.Frag) (C_START:Addr) (dG:Sp) (cN:Sp):TS:=(aS (dB (aW dG [] E0 (aB (aF 0) aQ)) (aN 1)) (aS (dB (eV [none,none,none] (aBu (aF 1)) (aBr K 2 (iF (aBr K 2 (iF (aN 0) (iF (aN 1) aBH))) (iF (aN 2) aBH))) [] fun acc=>(dO (rR (aB (aF 0) (aB (aF 1) (aB (aF 2) aQ)))) acc)) (aN 2)) (aS (eD (rR (aB (aBO K (aF 1) (tC (.ref C_START))) (aB (aW cN [] E0 (aB (aF 0) (aB (aF 1) aQ))) (aB (aF 2) aQ))))) aO)))
theorem tF (F:Fun K "shortest" "shortest" (top 18) f fd)(B:jO mg)  {C_START:Addr}(GC_START:mg "START" = some (.ref C_START))  {dG:Sp}(fM:Def P w K mg base "least_rests" 3 ["table"] dG){cN:Sp}(dI:Def P w K mg base "round_by_rests" 3 ["table","rests"] cN)  {sp:Sp}(len:∀ vs H Q E,sp vs H Q E→vs.length=1)
  (rd:∀ vs H Q E,sp vs H Q E→oB K C_START dG cN { nx:=fun _ H'=>Q .non H',rt:=Q } (bB ["table","rests","floors"] vs) H):FnOk P w K mg base CX0 4 f fd ["table"] sp:=by
 refine F.ok lV len (fun cdv A outer s H vs Q E hr h=>⟨_,?_,rd vs H Q E h⟩)
 have nd:=lV.nd
 exact (@aC _ _ _ _ _ (@bO _ _ 1 _ _ _ _ nd rfl (Or.inl rfl) (aX (fM.mono (by decide)) hr rfl (@aA _ _ _ _ _ _ (pv 0) aE)) (by rfl) (by first | exact .inl rfl | exact .inr rfl | assumption)) (@aC _ _ _ _ _ (kB (i:=2) nd rfl (Or.inl rfl) (N':=["some","last","rest"]) (ix:=[none,none,none]) rfl rfl rfl (aAf (pv 1)) (fun _ _ _=>(lN (K:=K) rfl rfl (cS (lN (K:=K) rfl rfl (cS (bE (i:=0) (show (["some","last","rest"]:List Str).Nodup from by decide +kernel) rfl (Or.inl rfl)) (cS (bE (i:=1) (show (["some","last","rest"]:List Str).Nodup from by decide +kernel) rfl (Or.inl rfl)) mN))) (cS (bE (i:=2) (show (["some","last","rest"]:List Str).Nodup from by decide +kernel) rfl (Or.inl rfl)) mN)))) (fun _ _ _ => .nil) (fun _ _ _ _=>(dC rfl (@eC _ _ _ _ _ (@aA _ _ _ _ _ _ (pv 0) (@aA _ _ _ _ _ _ (pv 1) (@aA _ _ _ _ _ _ (pv 2) aE)))) rfl))) (@aC _ _ _ _ _ (@bJ _ _ _ _ (@eC _ _ _ _ _ (@cI _ _ _ _ _ _ _ (yT (K:=K) rfl (hu6 hr) (pv 1) (wL (v := .ref C_START) rfl GC_START rfl) (fun _ _=>rfl)) (@bI _ _ _ _ _ _ _ _ (aX (dI.mono (by decide)) hr rfl (@aA _ _ _ _ _ _ (pv 0) (@aA _ _ _ _ _ _ (pv 1) aE))) (@aA _ _ _ _ _ _ (pv 2) aE))))) aI)))
theorem gX:bA ["table","rests","some","last"] ["table"] (aG (top 19)):=⟨rfl,rfl,rfl,by decide +kernel,rfl,by decide +kernel,by decide +kernel⟩
noncomputable def jM (K:PySem.W.Frag)  (cW:Sp) (cK:Sp):TS:=(aS (dB aBp (aN 1)) (aS (rQ (aFo K (aB (aW cK [] E0 (aB (tCB (oY K) (aB (aF 0) aQ)) aQ)) aQ)) (aN 2) (aS (rQ (uQ K (aFt K (tSl (mZ K) (aF 2) (dU (tC (.int 1))) bR) (aF 2))) (aN 3) (aS (mY (eY (tOp (sP K) (tCB (oY K) (aB (aF 2) aQ)) (tCB (oY K) (aB (aF 0) aQ)))) (aS (aCG (aF 1) (rR (aB (aF 2) (aB (aF 3) aQ))) (tOp (cQ K) (tOp (cQ K) (aF 0) (aF 3)) (tC (.int 0)))) aO) (aS (aCG (aF 1) (rR (aB (aF 2) (aB (aF 3) aQ))) (tOp (cQ K) (tCB (aBR K) (aB (aW cW [] E0 (aB (aF 0) (aB (aF 1) (aB (aF 2) (aB (aF 3) aQ))))) aQ)) (tC (.int 0)))) aO)) aO)) aO)) (aS (eD (aF 1)) aO)))
theorem nJ (F:Fun K "least_rests" "least_rests" (top 19) f fd)(B:jO mg)    {cW:Sp}(gO:Def P w K mg base "onward" 2 ["table","rests","some","last"] cW){cK:Sp}(dF:Def P w K mg base "parts_with_home" 1 ["many"] cK)  {sp:Sp}(len:∀ vs H Q E,sp vs H Q E→vs.length=1)
  (rd:∀ vs H Q E,sp vs H Q E→jM K  cW cK { nx:=fun _ H'=>Q .non H',rt:=Q } (bB ["table","rests","some","last"] vs) H):FnOk P w K mg base CX0 3 f fd ["table"] sp:=by
 refine F.ok gX len (fun cdv A outer s H vs Q E hr h=>⟨_,?_,rd vs H Q E h⟩)
 have nd:=gX.nd
 exact (@aC _ _ _ _ _ (@bO _ _ 1 _ _ _ _ nd rfl (Or.inl rfl) aAb (by rfl) (by first | exact .inl rfl | exact .inr rfl | assumption)) (@aC _ _ _ _ _ (iW PassesOwn.never rfl (aDC (K:=K) rfl rfl B.reversed (@bI _ _ _ _ _ _ _ _ (aX (dF.mono (by decide)) hr rfl (@bI _ _ _ _ _ _ _ _ (aR (bL (K:=K) rfl) rfl B.len dJ (@aA _ _ _ _ _ _ (pv 0) aE)) aE)) aE)) (bE (i:=2) nd rfl (Or.inl rfl)) (@aC _ _ _ _ _ (iW PassesOwn.never rfl (gA (K:=K) rfl (aDO (K:=K) rfl (bZ (iB (K:=K) rfl) (pv 2) (cO aK) cT) (kL (pv 2)))) (bE (i:=3) nd rfl (Or.inl rfl)) (@aC _ _ _ _ _ (@iQ _ _ _ _ _ _ _ _ (cH (iZ (K:=K) rfl hr) (aR (bL (K:=K) rfl) rfl B.len dJ (@aA _ _ _ _ _ _ (pv 2) aE)) (aR (bL (K:=K) rfl) rfl B.len dJ (@aA _ _ _ _ _ _ (pv 0) aE)) (bQ _)) (@aC _ _ _ _ _ (yQ (hu6 hr) (pv 1) (@eC _ _ _ _ _ (@aA _ _ _ _ _ _ (pv 2) (@aA _ _ _ _ _ _ (pv 3) aE))) (@cL _ _ _ _ _ _ _ (bH (K:=K) rfl) (@cL _ _ _ _ _ _ _ (bH (K:=K) rfl) (pv 0) (pv 3) (fun _ _=>rfl)) aK (fun _ _=>rfl)) rfl) aI) (@aC _ _ _ _ _ (yQ (hu6 hr) (pv 1) (@eC _ _ _ _ _ (@aA _ _ _ _ _ _ (pv 2) (@aA _ _ _ _ _ _ (pv 3) aE))) (@cL _ _ _ _ _ _ _ (bH (K:=K) rfl) (aR (oH (K:=K) rfl hr rfl) rfl B.min aBf (@bI _ _ _ _ _ _ _ _ (aX (gO.mono (by decide)) hr rfl (@aA _ _ _ _ _ _ (pv 0) (@aA _ _ _ _ _ _ (pv 1) (@aA _ _ _ _ _ _ (pv 2) (@aA _ _ _ _ _ _ (pv 3) aE))))) aE)) aK (fun _ _=>rfl)) rfl) aI)) aI)) aI)) (@aC _ _ _ _ _ (@bJ _ _ _ _ (pv 1)) aI)))
theorem eG:bA ["many","parts","place"] ["many"] (aG (top 20)):=⟨rfl,rfl,rfl,by decide +kernel,rfl,by decide +kernel,by decide +kernel⟩
noncomputable def eX (K:PySem.W.Frag)   : TS:=(aS (dB (rT (aB (rR (aB (tC (.int 0)) aQ)) aQ)) (aN 1)) (aS (rQ (rP (aB (tC (.int 1)) (aB (aF 0) aQ))) (aN 2) (aS (dB (tOp (bD K) (aF 1) (eV [none,some 2] (uQ K (aF 1)) (aN 0) [] fun acc=>(dO (tOp (bD K) (aF 0) (rR (aB (aF 1) aQ))) acc))) (aN 1)) aO)) (aS (eD (aF 1)) aO)))
theorem iL (F:Fun K "parts_with_home" "parts_with_home" (top 20) f fd)(B:jO mg)      {sp:Sp}(len:∀ vs H Q E,sp vs H Q E→vs.length=1)
  (rd:∀ vs H Q E,sp vs H Q E→eX K   { nx:=fun _ H'=>Q .non H',rt:=Q } (bB ["many","parts","place"] vs) H):FnOk P w K mg base CX0 1 f fd ["many"] sp:=by
 refine F.ok eG len (fun cdv A outer s H vs Q E hr h=>⟨_,?_,rd vs H Q E h⟩)
 have nd:=eG.nd
 exact (@aC _ _ _ _ _ (@bO _ _ 1 _ _ _ _ nd rfl (Or.inl rfl) (@fT _ _ _ _ (@aAx _ _ _ _ _ _ _ (@eC _ _ _ _ _ (@bF _ _ _ _ _ _ _ aK aE)) aE)) (by rfl) (by first | exact .inl rfl | exact .inr rfl | assumption)) (@aC _ _ _ _ _ (iW PassesOwn.never rfl (iJ rfl B.range (@bF _ _ _ _ _ _ _ aK (@aA _ _ _ _ _ _ (pv 0) aE))) (bE (i:=2) nd rfl (Or.inr rfl)) (@aC _ _ _ _ _ (@bO _ _ 1 _ _ _ _ nd rfl (Or.inl rfl) (@bK _ _ _ _ _ _ _ _ (bC (K:=K) rfl) (pv 1) (eK (N':=["some","place"]) (ix:=[none,some 2]) rfl rfl rfl (gA (K:=K) rfl (pv 1)) (fun _ _ _=>(bE (i:=0) (show (["some","place"]:List Str).Nodup from by decide +kernel) rfl (Or.inl rfl))) (fun _ _ _ => .nil) (fun _ _ _ _=>(dC rfl (@bK _ _ _ _ _ _ _ _ (bC (K:=K) rfl) (pv 0) (@eC _ _ _ _ _ (@aA _ _ _ _ _ _ (pv 1) aE))) rfl)))) (by rfl) (by first | exact .inl rfl | exact .inr rfl | assumption)) aI)) (@aC _ _ _ _ _ (@bJ _ _ _ _ (pv 1)) aI)))
theorem rL:bA ["some","place"] ["some","place"] (aG (top 21)):=⟨rfl,rfl,rfl,by decide +kernel,rfl,by decide +kernel,by decide +kernel⟩
noncomputable def tR (K:PySem.W.Frag)   : TS:=(aS (eD (tCB (iH K) (aB (tCB (lP K) (aB (tOp (bD K) (aF 0) (rR (aB (aF 1) aQ))) aQ)) aQ))) aO)
theorem xN (F:Fun K "joined" "joined" (top 21) f fd)(B:jO mg)      {sp:Sp}(len:∀ vs H Q E,sp vs H Q E→vs.length=2)
  (rd:∀ vs H Q E,sp vs H Q E→tR K   { nx:=fun _ H'=>Q .non H',rt:=Q } (bB ["some","place"] vs) H):FnOk P w K mg base CX0 1 f fd ["some","place"] sp:=by
 refine F.ok rL len (fun cdv A outer s H vs Q E hr h=>⟨_,?_,rd vs H Q E h⟩)
 have nd:=rL.nd
 exact (@aC _ _ _ _ _ (@bJ _ _ _ _ (cM (fG (K:=K) rfl) rfl B.tuple iP (@bI _ _ _ _ _ _ _ _ (aR (gC (K:=K) rfl) rfl B.sorted lG (@fJ _ _ _ _ _ _ _ _ (@bK _ _ _ _ _ _ _ _ (bC (K:=K) rfl) (pv 0) (@eC _ _ _ _ _ (@aA _ _ _ _ _ _ (pv 1) aE))) aE)) aE))) aI)
theorem hJ:bA ["table","some"] ["table","some"] (aG (top 22)):=⟨rfl,rfl,rfl,by decide +kernel,rfl,by decide +kernel,by decide +kernel⟩
noncomputable def iS (K:PySem.W.Frag)   : TS:=(aS (eD (eV [none,some 1] (nF (aB (tCB (oY K) (aB (aF 0) aQ)) aQ)) (aN 0) [(eY (tOp (rIn K true) (aF 0) (aF 1)))] fun acc=>(dO (aF 0) acc))) aO)
theorem nL (F:Fun K "places_left" "places_left" (top 22) f fd)(B:jO mg)      {sp:Sp}(len:∀ vs H Q E,sp vs H Q E→vs.length=2)
  (rd:∀ vs H Q E,sp vs H Q E→iS K   { nx:=fun _ H'=>Q .non H',rt:=Q } (bB ["table","some"] vs) H):FnOk P w K mg base CX0 1 f fd ["table","some"] sp:=by
 refine F.ok hJ len (fun cdv A outer s H vs Q E hr h=>⟨_,?_,rd vs H Q E h⟩)
 have nd:=hJ.nd
 exact (@aC _ _ _ _ _ (@bJ _ _ _ _ (eK (N':=["place","some"]) (ix:=[none,some 1]) rfl rfl rfl (eW rfl B.range (@bI _ _ _ _ _ _ _ _ (aR (bL (K:=K) rfl) rfl B.len dJ (@aA _ _ _ _ _ _ (pv 0) aE)) aE)) (fun _ _ _=>(bE (i:=0) (show (["place","some"]:List Str).Nodup from by decide +kernel) rfl (Or.inl rfl))) (fun _ _ _=>(.cons (cH (xE (K:=K) rfl) (pv 0) (pv 1) rfl) .nil)) (fun _ _ _ _=>(dC rfl (pv 0) rfl)))) aI)
theorem qH:bA ["table","rests","some","last"] ["table","rests","some","last"] (aG (top 23)):=⟨rfl,rfl,rfl,by decide +kernel,rfl,by decide +kernel,by decide +kernel⟩
noncomputable def uB (K:PySem.W.Frag)  (jN:Sp) (dH:Sp):TS:=(aS (eD (eV [none,some 0,some 3,some 1,some 2] (uQ K (aW dH [] E0 (aB (aF 0) (aB (aF 2) aQ)))) (aN 0) [] fun acc=>(dO (rR (aB (tOp (bD K) (tOp (cQ K) (tOp (cQ K) (aF 1) (aF 2)) (aF 0)) (aBO K (aF 3) (rR (aB (aW jN [] E0 (aB (aF 4) (aB (aF 0) aQ))) (aB (aF 0) aQ))))) (aB (aF 0) aQ))) acc))) aO)
theorem xY (F:Fun K "onward" "onward" (top 23) f fd)(B:jO mg)    {jN:Sp}(qA:Def P w K mg base "joined" 1 ["some","place"] jN){dH:Sp}(fN:Def P w K mg base "places_left" 1 ["table","some"] dH)  {sp:Sp}(len:∀ vs H Q E,sp vs H Q E→vs.length=4)
  (rd:∀ vs H Q E,sp vs H Q E→uB K  jN dH { nx:=fun _ H'=>Q .non H',rt:=Q } (bB ["table","rests","some","last"] vs) H):FnOk P w K mg base CX0 2 f fd ["table","rests","some","last"] sp:=by
 refine F.ok qH len (fun cdv A outer s H vs Q E hr h=>⟨_,?_,rd vs H Q E h⟩)
 have nd:=qH.nd
 exact (@aC _ _ _ _ _ (@bJ _ _ _ _ (eK (N':=["place","table","last","rests","some"]) (ix:=[none,some 0,some 3,some 1,some 2]) rfl rfl rfl (gA (K:=K) rfl (aX (fN.mono (by decide)) hr rfl (@aA _ _ _ _ _ _ (pv 0) (@aA _ _ _ _ _ _ (pv 2) aE)))) (fun _ _ _=>(bE (i:=0) (show (["place","table","last","rests","some"]:List Str).Nodup from by decide +kernel) rfl (Or.inl rfl))) (fun _ _ _ => .nil) (fun _ _ _ _=>(dC rfl (@eC _ _ _ _ _ (@fJ _ _ _ _ _ _ _ _ (@bK _ _ _ _ _ _ _ _ (bC (K:=K) rfl) (@cL _ _ _ _ _ _ _ (bH (K:=K) rfl) (@cL _ _ _ _ _ _ _ (bH (K:=K) rfl) (pv 1) (pv 2) (fun _ _=>rfl)) (pv 0) (fun _ _=>rfl)) (yT (K:=K) rfl (hu6 hr) (pv 3) (@eC _ _ _ _ _ (@bI _ _ _ _ _ _ _ _ (aX (qA.mono (by decide)) hr rfl (@aA _ _ _ _ _ _ (pv 4) (@aA _ _ _ _ _ _ (pv 0) aE))) (@aA _ _ _ _ _ _ (pv 0) aE))) (fun _ _=>rfl))) (@aA _ _ _ _ _ _ (pv 0) aE))) rfl)))) aI)
theorem eU:bA ["table","rests","gone","some"] ["table","rests"] (aG (top 24)):=⟨rfl,rfl,rfl,by decide +kernel,rfl,by decide +kernel,by decide +kernel⟩
noncomputable def fU (K:PySem.W.Frag)  (cW:Sp):TS:=(aS (dB (rR (aB (tC (.int 0)) aQ)) (aN 2)) (aS (tZ (eY (tOp yLt (tCB (oY K) (aB (aF 2) aQ)) (tCB (oY K) (aB (aF 0) aQ)))) (aS (dB (tCB (iH K) (aB (tCB (lP K) (aB (aF 2) aQ)) aQ)) (aN 3)) (aS (dB (tOp (bD K) (aF 2) (rR (aB (tOp (cQ K) (tCB (aBR K) (aB (aW cW [] E0 (aB (aF 0) (aB (aF 1) (aB (aF 3) (aB (tOp (cQ K) (aF 2) (tUn aCy (tC (.int 1)))) aQ))))) aQ)) (tC (.int 1))) aQ))) (aN 2)) aO))) (aS (eD (aF 2)) aO)))
theorem jW (F:Fun K "round_by_rests" "round_by_rests" (top 24) f fd)(B:jO mg)    {cW:Sp}(gO:Def P w K mg base "onward" 2 ["table","rests","some","last"] cW)  {sp:Sp}(len:∀ vs H Q E,sp vs H Q E→vs.length=2)
  (rd:∀ vs H Q E,sp vs H Q E→fU K  cW { nx:=fun _ H'=>Q .non H',rt:=Q } (bB ["table","rests","gone","some"] vs) H):FnOk P w K mg base CX0 3 f fd ["table","rests"] sp:=by
 refine F.ok eU len (fun cdv A outer s H vs Q E hr h=>⟨_,?_,rd vs H Q E h⟩)
 have nd:=eU.nd
 exact (@aC _ _ _ _ _ (@bO _ _ 2 _ _ _ _ nd rfl (Or.inl rfl) (@eC _ _ _ _ _ (@bF _ _ _ _ _ _ _ aK aE)) (by rfl) (by first | exact .inl rfl | exact .inr rfl | assumption)) (@aC _ _ _ _ _ (pD PassesOwn.never (cH qX (aR (bL (K:=K) rfl) rfl B.len dJ (@aA _ _ _ _ _ _ (pv 2) aE)) (aR (bL (K:=K) rfl) rfl B.len dJ (@aA _ _ _ _ _ _ (pv 0) aE)) (bQ _)) (@aC _ _ _ _ _ (@bO _ _ 3 _ _ _ _ nd rfl (Or.inl rfl) (cM (fG (K:=K) rfl) rfl B.tuple iP (@bI _ _ _ _ _ _ _ _ (aR (gC (K:=K) rfl) rfl B.sorted lG (@aA _ _ _ _ _ _ (pv 2) aE)) aE)) (by rfl) (by first | exact .inl rfl | exact .inr rfl | assumption)) (@aC _ _ _ _ _ (@bO _ _ 2 _ _ _ _ nd rfl (Or.inl rfl) (@bK _ _ _ _ _ _ _ _ (bC (K:=K) rfl) (pv 2) (@eC _ _ _ _ _ (@cI _ _ _ _ _ _ _ (@cL _ _ _ _ _ _ _ (bH (K:=K) rfl) (aR (oH (K:=K) rfl hr rfl) rfl B.min aBf (@bI _ _ _ _ _ _ _ _ (aX (gO.mono (by decide)) hr rfl (@aA _ _ _ _ _ _ (pv 0) (@aA _ _ _ _ _ _ (pv 1) (@aA _ _ _ _ _ _ (pv 3) (@cI _ _ _ _ _ _ _ (@cL _ _ _ _ _ _ _ (bH (K:=K) rfl) (pv 2) (tD mD aK) (fun _ _=>rfl)) aE))))) aE)) aK (fun _ _=>rfl)) aE))) (by rfl) (by first | exact .inl rfl | exact .inr rfl | assumption)) aI))) (@aC _ _ _ _ _ (@bJ _ _ _ _ (pv 2)) aI)))
theorem jH:bA ["script"] ["script"] (aG (top 26)):=⟨rfl,rfl,rfl,by decide +kernel,rfl,by decide +kernel,by decide +kernel⟩
noncomputable def kP (K:PySem.W.Frag)   : TS:=(aS (eD (rT (aB (tCB (aAd K) (aB (tSl (mZ K) (aF 0) bR (dU (tC (.int 63)))) aQ)) (aB (tC (.int 0)) (aB (tC (.int 0)) aQ))))) aO)
theorem pV (F:Fun K "_law_e_pen" "_law_e_pen" (top 26) f fd)(B:jO mg)      {sp:Sp}(len:∀ vs H Q E,sp vs H Q E→vs.length=1)
  (rd:∀ vs H Q E,sp vs H Q E→kP K   { nx:=fun _ H'=>Q .non H',rt:=Q } (bB ["script"] vs) H):FnOk P w K mg base CX0 1 f fd ["script"] sp:=by
 refine F.ok jH len (fun cdv A outer s H vs Q E hr h=>⟨_,?_,rd vs H Q E h⟩)
 have nd:=jH.nd
 exact (@aC _ _ _ _ _ (@bJ _ _ _ _ (@fT _ _ _ _ (@bI _ _ _ _ _ _ _ _ (cM (kC (K:=K) rfl rfl) rfl B.list sD (@cI _ _ _ _ _ _ _ (bZ (iB (K:=K) rfl) (pv 0) cT (cO aK)) aE)) (@bF _ _ _ _ _ _ _ aK (@bF _ _ _ _ _ _ _ aK aE))))) aI)
theorem gD:bA ["pen","at","cell","one","two"] ["pen"] (aG (top 27)):=⟨rfl,rfl,rfl,by decide +kernel,rfl,by decide +kernel,by decide +kernel⟩
noncomputable def gT (K:PySem.W.Frag)   : TS:=(aS (dB (tOp (cQ K) (aF 0) (tC (.int 1))) (aN 1)) (aS (dB (tOp (bD K) (aF 1) (tC (.int 1))) (vN (aF 0) (tC (.int 1)) jY)) (aS (dB (tOp (bD K) (tOp eN (aF 1) (aF 1)) (tC (.int 5))) (aN 2)) (aS (mY (eY (tOp yLt (aF 1) (tCB (oY K) (aB (tOp (cQ K) (aF 0) (tC (.int 0))) aQ)))) (aS (dB (tOp (cQ K) (tOp (cQ K) (aF 0) (tC (.int 0))) (aF 1)) (aN 2)) aO) (aS (mY (eY (tOp yGt (tCB (oY K) (aB (tOp (cQ K) (aF 0) (tC (.int 0))) aQ)) (tC (.int 0)))) (aS (dB (tOp (bD K) (aF 2) (tOp eN (tOp vS (tOp (cQ K) (tOp (cQ K) (aF 0) (tC (.int 0))) (tOp vS (tOp eN (aF 1) (tC (.int 3))) (tCB (oY K) (aB (tOp (cQ K) (aF 0) (tC (.int 0))) aQ)))) (tC (.int 1000003))) (tOp (bD K) (aF 1) (tC (.int 1))))) (aN 2)) aO) aO) aO)) (aS (mY (eY (tOp yGe (aF 2) (tOp aFz (tC (.int 10)) (tC (.int 18))))) (aS (eD (aF 2)) aO) aO) (aS (dB (tOp vS (tOp (bD K) (tOp (bD K) (tOp eN (tOp vS (aF 2) (tC (.int 2147483423))) (tC (.int 60013))) (tOp eN (aF 1) (tC (.int 40692)))) (tC (.int 17))) (tC (.int 2147483399))) (aN 3)) (aS (dB (tOp vS (tOp (bD K) (tOp (bD K) (tOp eN (aF 3) (aF 3)) (tOp eN (aF 1) (tC (.int 811)))) (tC (.int 3))) (tC (.int 2147483353))) (aN 4)) (aS (eD (tOp (bD K) (tOp eN (tOp (bD K) (aF 4) (tC (.int 2147483353))) (tC (.int 2147483353))) (tOp vS (tOp (bD K) (tOp eN (aF 4) (aF 4)) (aF 3)) (tC (.int 2147483353))))) aO))))))))
theorem mK (F:Fun K "_law_e_fresh" "_law_e_fresh" (top 27) f fd)(B:jO mg)      {sp:Sp}(len:∀ vs H Q E,sp vs H Q E→vs.length=1)
  (rd:∀ vs H Q E,sp vs H Q E→gT K   { nx:=fun _ H'=>Q .non H',rt:=Q } (bB ["pen","at","cell","one","two"] vs) H):FnOk P w K mg base CX0 1 f fd ["pen"] sp:=by
 refine F.ok gD len (fun cdv A outer s H vs Q E hr h=>⟨_,?_,rd vs H Q E h⟩)
 have nd:=gD.nd
 exact (@aC _ _ _ _ _ (@bO _ _ 1 _ _ _ _ nd rfl (Or.inl rfl) (@cL _ _ _ _ _ _ _ (bH (K:=K) rfl) (pv 0) aK (fun _ _=>rfl)) (by rfl) (by first | exact .inl rfl | exact .inr rfl | assumption)) (@aC _ _ _ _ _ (lB (@bK _ _ _ _ _ _ _ _ (bC (K:=K) rfl) (pv 1) aK) (nZ (pv 0) aK gK)) (@aC _ _ _ _ _ (@bO _ _ 2 _ _ _ _ nd rfl (Or.inl rfl) (@bK _ _ _ _ _ _ _ _ (bC (K:=K) rfl) (@bK _ _ _ _ _ _ _ _ dQ (pv 1) (pv 1)) aK) (by rfl) (by first | exact .inl rfl | exact .inr rfl | assumption)) (@aC _ _ _ _ _ (@iQ _ _ _ _ _ _ _ _ (cH qX (pv 1) (aR (bL (K:=K) rfl) rfl B.len dJ (@cI _ _ _ _ _ _ _ (@cL _ _ _ _ _ _ _ (bH (K:=K) rfl) (pv 0) aK (fun _ _=>rfl)) aE)) (bQ _)) (@aC _ _ _ _ _ (@bO _ _ 2 _ _ _ _ nd rfl (Or.inl rfl) (@cL _ _ _ _ _ _ _ (bH (K:=K) rfl) (@cL _ _ _ _ _ _ _ (bH (K:=K) rfl) (pv 0) aK (fun _ _=>rfl)) (pv 1) (fun _ _=>rfl)) (by rfl) (by first | exact .inl rfl | exact .inr rfl | assumption)) aI) (@aC _ _ _ _ _ (@iQ _ _ _ _ _ _ _ _ (cH aCX (aR (bL (K:=K) rfl) rfl B.len dJ (@cI _ _ _ _ _ _ _ (@cL _ _ _ _ _ _ _ (bH (K:=K) rfl) (pv 0) aK (fun _ _=>rfl)) aE)) aK (bQ _)) (@aC _ _ _ _ _ (@bO _ _ 2 _ _ _ _ nd rfl (Or.inl rfl) (@bK _ _ _ _ _ _ _ _ (bC (K:=K) rfl) (pv 2) (@bK _ _ _ _ _ _ _ _ dQ (@bK _ _ _ _ _ _ _ _ lO (@cL _ _ _ _ _ _ _ (bH (K:=K) rfl) (@cL _ _ _ _ _ _ _ (bH (K:=K) rfl) (pv 0) aK (fun _ _=>rfl)) (@bK _ _ _ _ _ _ _ _ lO (@bK _ _ _ _ _ _ _ _ dQ (pv 1) aK) (aR (bL (K:=K) rfl) rfl B.len dJ (@cI _ _ _ _ _ _ _ (@cL _ _ _ _ _ _ _ (bH (K:=K) rfl) (pv 0) aK (fun _ _=>rfl)) aE))) (fun _ _=>rfl)) aK) (@bK _ _ _ _ _ _ _ _ (bC (K:=K) rfl) (pv 1) aK))) (by rfl) (by first | exact .inl rfl | exact .inr rfl | assumption)) aI) aI) aI)) (@aC _ _ _ _ _ (@iQ _ _ _ _ _ _ _ _ (cH aEH (pv 2) (@bK _ _ _ _ _ _ _ _ aDN aK aK) (bQ _)) (@aC _ _ _ _ _ (@bJ _ _ _ _ (pv 2)) aI) aI) (@aC _ _ _ _ _ (@bO _ _ 3 _ _ _ _ nd rfl (Or.inl rfl) (@bK _ _ _ _ _ _ _ _ lO (@bK _ _ _ _ _ _ _ _ (bC (K:=K) rfl) (@bK _ _ _ _ _ _ _ _ (bC (K:=K) rfl) (@bK _ _ _ _ _ _ _ _ dQ (@bK _ _ _ _ _ _ _ _ lO (pv 2) aK) aK) (@bK _ _ _ _ _ _ _ _ dQ (pv 1) aK)) aK) aK) (by rfl) (by first | exact .inl rfl | exact .inr rfl | assumption)) (@aC _ _ _ _ _ (@bO _ _ 4 _ _ _ _ nd rfl (Or.inl rfl) (@bK _ _ _ _ _ _ _ _ lO (@bK _ _ _ _ _ _ _ _ (bC (K:=K) rfl) (@bK _ _ _ _ _ _ _ _ (bC (K:=K) rfl) (@bK _ _ _ _ _ _ _ _ dQ (pv 3) (pv 3)) (@bK _ _ _ _ _ _ _ _ dQ (pv 1) aK)) aK) aK) (by rfl) (by first | exact .inl rfl | exact .inr rfl | assumption)) (@aC _ _ _ _ _ (@bJ _ _ _ _ (@bK _ _ _ _ _ _ _ _ (bC (K:=K) rfl) (@bK _ _ _ _ _ _ _ _ dQ (@bK _ _ _ _ _ _ _ _ (bC (K:=K) rfl) (pv 4) aK) aK) (@bK _ _ _ _ _ _ _ _ lO (@bK _ _ _ _ _ _ _ _ (bC (K:=K) rfl) (@bK _ _ _ _ _ _ _ _ dQ (pv 4) (pv 4)) (pv 3)) aK))) aI))))))))
theorem gW:bA ["pen","many","found"] ["pen","many"] (aG (top 28)):=⟨rfl,rfl,rfl,by decide +kernel,rfl,by decide +kernel,by decide +kernel⟩
noncomputable def iM (K:PySem.W.Frag)  (cX:Sp):TS:=(aS (mY (eY (tOp yLt (tOp (cQ K) (aF 0) (tC (.int 2))) (aF 1))) (aS (dB (aW cX [] E0 (aB (aF 0) aQ)) (vN (aF 0) (tC (.int 2)) jY)) aO) aO) (aS (dB (tOp vS (tOp (cQ K) (aF 0) (tC (.int 2))) (aF 1)) (aN 2)) (aS (dB (tOp aFk (tOp (cQ K) (aF 0) (tC (.int 2))) (aF 1)) (vN (aF 0) (tC (.int 2)) jY)) (aS (eD (aF 2)) aO))))
theorem nG (F:Fun K "_law_e_take" "_law_e_take" (top 28) f fd)(B:jO mg)    {cX:Sp}(eO:Def P w K mg base "_law_e_fresh" 1 ["pen"] cX)  {sp:Sp}(len:∀ vs H Q E,sp vs H Q E→vs.length=2)
  (rd:∀ vs H Q E,sp vs H Q E→iM K  cX { nx:=fun _ H'=>Q .non H',rt:=Q } (bB ["pen","many","found"] vs) H):FnOk P w K mg base CX0 2 f fd ["pen","many"] sp:=by
 refine F.ok gW len (fun cdv A outer s H vs Q E hr h=>⟨_,?_,rd vs H Q E h⟩)
 have nd:=gW.nd
 exact (@aC _ _ _ _ _ (@iQ _ _ _ _ _ _ _ _ (cH qX (@cL _ _ _ _ _ _ _ (bH (K:=K) rfl) (pv 0) aK (fun _ _=>rfl)) (pv 1) (bQ _)) (@aC _ _ _ _ _ (lB (aX (eO.mono (by decide)) hr rfl (@aA _ _ _ _ _ _ (pv 0) aE)) (nZ (pv 0) aK gK)) aI) aI) (@aC _ _ _ _ _ (@bO _ _ 2 _ _ _ _ nd rfl (Or.inl rfl) (@bK _ _ _ _ _ _ _ _ lO (@cL _ _ _ _ _ _ _ (bH (K:=K) rfl) (pv 0) aK (fun _ _=>rfl)) (pv 1)) (by rfl) (by first | exact .inl rfl | exact .inr rfl | assumption)) (@aC _ _ _ _ _ (lB (@bK _ _ _ _ _ _ _ _ aBG (@cL _ _ _ _ _ _ _ (bH (K:=K) rfl) (pv 0) aK (fun _ _=>rfl)) (pv 1)) (nZ (pv 0) aK gK)) (@aC _ _ _ _ _ (@bJ _ _ _ _ (pv 2)) aI))))
theorem fV:bA ["pen","many","even","top","low","lines","i","j"] ["pen","many","even"] (aG (top 29)):=⟨rfl,rfl,rfl,by decide +kernel,rfl,by decide +kernel,by decide +kernel⟩
noncomputable def gZ (K:PySem.W.Frag)  (aJ:Sp):TS:=(aS (dB (tOp (cQ K) (rT (aB (tC (.int 10)) (aB (tC (.int 1000001)) (aB (tC (.int 3)) (aB (tC (.int 60)) (aB (tC (.int 1001)) (aB (tC (.int 2)) aQ))))))) (aW aJ [] E0 (aB (aF 0) (aB (tC (.int 6)) aQ)))) (aN 3)) (aS (dB (tOp eN (tC (.int 999999)) (tCB xF (aB (tOp (sP K) (aF 3) (tC (.int 2))) aQ))) (aN 4)) (aS (dB (eV [none,some 1] (nF (aB (aF 1) aQ)) (aN 0) [] fun acc=>(dO (tOp eN (rT (aB (tC (.int 0)) aQ)) (aF 1)) acc)) (aN 5)) (aS (rQ (nF (aB (aF 1) aQ)) (aN 6) (aS (rQ (nF (aB (aF 6) aQ)) (aN 7) (aS (dB (tOp (bD K) (aF 4) (aW aJ [] E0 (aB (aF 0) (aB (aF 3) aQ)))) (vN (tOp (cQ K) (aF 5) (aF 6)) (aF 7) jY)) (aS (dB (tOp (cQ K) (tOp (cQ K) (aF 5) (aF 6)) (aF 7)) (vN (tOp (cQ K) (aF 5) (aF 7)) (aF 6) jY)) (aS (mY (zN (aEj K (aF 2))) (aS (dB (tOp (bD K) (aF 4) (aW aJ [] E0 (aB (aF 0) (aB (aF 3) aQ)))) (vN (tOp (cQ K) (aF 5) (aF 7)) (aF 6) jY)) aO) aO) aO)))) aO)) (aS (eD (tCB (iH K) (aB (eV [none] (uQ K (aF 5)) (aN 0) [] fun acc=>(dO (tCB (iH K) (aB (aF 0) aQ)) acc)) aQ))) aO)))))
theorem lJ (F:Fun K "_law_e_table" "_law_e_table" (top 29) f fd)(B:jO mg)    {aJ:Sp}(aZ:Def P w K mg base "_law_e_take" 2 ["pen","many"] aJ)  {sp:Sp}(len:∀ vs H Q E,sp vs H Q E→vs.length=3)
  (rd:∀ vs H Q E,sp vs H Q E→gZ K  aJ { nx:=fun _ H'=>Q .non H',rt:=Q } (bB ["pen","many","even","top","low","lines","i","j"] vs) H):FnOk P w K mg base CX0 3 f fd ["pen","many","even"] sp:=by
 refine F.ok fV len (fun cdv A outer s H vs Q E hr h=>⟨_,?_,rd vs H Q E h⟩)
 have nd:=fV.nd
 exact (@aC _ _ _ _ _ (@bO _ _ 3 _ _ _ _ nd rfl (Or.inl rfl) (@cL _ _ _ _ _ _ _ (bH (K:=K) rfl) (@fT _ _ _ _ (@bF _ _ _ _ _ _ _ aK (@bF _ _ _ _ _ _ _ aK (@bF _ _ _ _ _ _ _ aK (@bF _ _ _ _ _ _ _ aK (@bF _ _ _ _ _ _ _ aK (@bF _ _ _ _ _ _ _ aK aE))))))) (aX (aZ.mono (by decide)) hr rfl (@aA _ _ _ _ _ _ (pv 0) (@bF _ _ _ _ _ _ _ aK aE))) (fun _ _=>rfl)) (by rfl) (by first | exact .inl rfl | exact .inr rfl | assumption)) (@aC _ _ _ _ _ (@bO _ _ 4 _ _ _ _ nd rfl (Or.inl rfl) (@bK _ _ _ _ _ _ _ _ dQ aK (cM oC rfl B.int xU (cP (dD (iZ (K:=K) rfl hr) (pv 3) aK (bQ _)) aE))) (by rfl) (by first | exact .inl rfl | exact .inr rfl | assumption)) (@aC _ _ _ _ _ (kB (i:=5) nd rfl (Or.inl rfl) (N':=["k","many"]) (ix:=[none,some 1]) rfl rfl rfl (eW rfl B.range (@aA _ _ _ _ _ _ (pv 1) aE)) (fun _ _ _=>(bE (i:=0) (show (["k","many"]:List Str).Nodup from by decide +kernel) rfl (Or.inl rfl))) (fun _ _ _ => .nil) (fun _ _ _ _=>(dC rfl (@bK _ _ _ _ _ _ _ _ dQ (@fT _ _ _ _ (@bF _ _ _ _ _ _ _ aK aE)) (pv 1)) rfl))) (@aC _ _ _ _ _ (iW PassesOwn.never rfl (eW rfl B.range (@aA _ _ _ _ _ _ (pv 1) aE)) (bE (i:=6) nd rfl (Or.inl rfl)) (@aC _ _ _ _ _ (iW PassesOwn.never rfl (eW rfl B.range (@aA _ _ _ _ _ _ (pv 6) aE)) (bE (i:=7) nd rfl (Or.inl rfl)) (@aC _ _ _ _ _ (lB (@bK _ _ _ _ _ _ _ _ (bC (K:=K) rfl) (pv 4) (aX (aZ.mono (by decide)) hr rfl (@aA _ _ _ _ _ _ (pv 0) (@aA _ _ _ _ _ _ (pv 3) aE)))) (nZ (@cL _ _ _ _ _ _ _ (bH (K:=K) rfl) (pv 5) (pv 6) (fun _ _=>rfl)) (pv 7) gK)) (@aC _ _ _ _ _ (lB (@cL _ _ _ _ _ _ _ (bH (K:=K) rfl) (@cL _ _ _ _ _ _ _ (bH (K:=K) rfl) (pv 5) (pv 6) (fun _ _=>rfl)) (pv 7) (fun _ _=>rfl)) (nZ (@cL _ _ _ _ _ _ _ (bH (K:=K) rfl) (pv 5) (pv 7) (fun _ _=>rfl)) (pv 6) gK)) (@aC _ _ _ _ _ (@iQ _ _ _ _ _ _ _ _ (tU (wA (K:=K) rfl (pv 2) (fun _=>rfl))) (@aC _ _ _ _ _ (lB (@bK _ _ _ _ _ _ _ _ (bC (K:=K) rfl) (pv 4) (aX (aZ.mono (by decide)) hr rfl (@aA _ _ _ _ _ _ (pv 0) (@aA _ _ _ _ _ _ (pv 3) aE)))) (nZ (@cL _ _ _ _ _ _ _ (bH (K:=K) rfl) (pv 5) (pv 7) (fun _ _=>rfl)) (pv 6) gK)) aI) aI) aI)))) aI)) (@aC _ _ _ _ _ (@bJ _ _ _ _ (cM (fG (K:=K) rfl) rfl B.tuple iP (cP (eK (N':=["line"]) (ix:=[none]) rfl rfl rfl (gA (K:=K) rfl (pv 5)) (fun _ _ _=>(bE (i:=0) (show (["line"]:List Str).Nodup from by decide +kernel) rfl (Or.inl rfl))) (fun _ _ _ => .nil) (fun _ _ _ _=>(dC rfl (cM (fG (K:=K) rfl) rfl B.tuple iP (@aA _ _ _ _ _ _ (pv 0) aE)) rfl))) aE))) aI)))))
theorem gQ:bA ["pen","many","left","found"] ["pen","many"] (aG (top 30)):=⟨rfl,rfl,rfl,by decide +kernel,rfl,by decide +kernel,by decide +kernel⟩
noncomputable def iI (K:PySem.W.Frag)  (aJ:Sp):TS:=(aS (dB (tCB (aAd K) (aB (tCB aEV (aB (tC (.int 1)) (aB (aF 1) aQ))) aQ)) (aN 2)) (aS (dB (rR (aB (tC (.int 0)) aQ)) (aN 3)) (aS (tZ (eY (tOp (aCP K) (aF 2) (rT aQ))) (aS (dB (tOp (bD K) (aF 3) (rR (aB (tBM K "list" aBb (aF 2) (aB (aW aJ [] E0 (aB (aF 0) (aB (tCB (oY K) (aB (aF 2) aQ)) aQ))) aQ)) aQ))) (aN 3)) aO)) (aS (eD (aF 3)) aO))))
theorem nD (F:Fun K "_law_e_tour" "_law_e_tour" (top 30) f fd)(B:jO mg)    {aJ:Sp}(aZ:Def P w K mg base "_law_e_take" 2 ["pen","many"] aJ)  {sp:Sp}(len:∀ vs H Q E,sp vs H Q E→vs.length=2)
  (rd:∀ vs H Q E,sp vs H Q E→iI K  aJ { nx:=fun _ H'=>Q .non H',rt:=Q } (bB ["pen","many","left","found"] vs) H):FnOk P w K mg base CX0 3 f fd ["pen","many"] sp:=by
 refine F.ok gQ len (fun cdv A outer s H vs Q E hr h=>⟨_,?_,rd vs H Q E h⟩)
 have nd:=gQ.nd
 exact (@aC _ _ _ _ _ (@bO _ _ 2 _ _ _ _ nd rfl (Or.inl rfl) (cM (kC (K:=K) rfl rfl) rfl B.list sD (@bI _ _ _ _ _ _ _ _ (cM qY rfl B.range uL (@bF _ _ _ _ _ _ _ aK (@aA _ _ _ _ _ _ (pv 1) aE))) aE)) (by rfl) (by first | exact .inl rfl | exact .inr rfl | assumption)) (@aC _ _ _ _ _ (@bO _ _ 3 _ _ _ _ nd rfl (Or.inl rfl) (@eC _ _ _ _ _ (@bF _ _ _ _ _ _ _ aK aE)) (by rfl) (by first | exact .inl rfl | exact .inr rfl | assumption)) (@aC _ _ _ _ _ (pD PassesOwn.never (cH (tN (K:=K) rfl hr) (pv 2) (@fT _ _ _ _ aE) (bQ _)) (@aC _ _ _ _ _ (@bO _ _ 3 _ _ _ _ nd rfl (Or.inl rfl) (@bK _ _ _ _ _ _ _ _ (bC (K:=K) rfl) (pv 3) (@eC _ _ _ _ _ (@bI _ _ _ _ _ _ _ _ (rK (K:=K) rfl PySem.F.plainAttrs_list PySem.F.slot_list_pop PySem.F.type_list_pop aAk (pv 2) (@bI _ _ _ _ _ _ _ _ (aX (aZ.mono (by decide)) hr rfl (@aA _ _ _ _ _ _ (pv 0) (@bI _ _ _ _ _ _ _ _ (aR (bL (K:=K) rfl) rfl B.len dJ (@aA _ _ _ _ _ _ (pv 2) aE)) aE))) aE)) aE))) (by rfl) (by first | exact .inl rfl | exact .inr rfl | assumption)) aI)) (@aC _ _ _ _ _ (@bJ _ _ _ _ (pv 3)) aI))))
theorem iU:bA ["table","told"] ["table","told"] (aG (top 31)):=⟨rfl,rfl,rfl,by decide +kernel,rfl,by decide +kernel,by decide +kernel⟩
noncomputable def kO (K:PySem.W.Frag)   : TS:=(aS (eD (tCB (aEB K) (aB (eV [none,some 0,some 1] (nF (aB (tCB (oY K) (aB (aF 1) aQ)) aQ)) (aN 0) [] fun acc=>(dO (tOp (cQ K) (tOp (cQ K) (aF 1) (tOp (cQ K) (aF 2) (tOp aFD (aF 0) (tC (.int 1))))) (tOp (cQ K) (aF 2) (aF 0))) acc)) aQ))) aO)
theorem pP (F:Fun K "_law_e_sum" "_law_e_sum" (top 31) f fd)(B:jO mg)      {sp:Sp}(len:∀ vs H Q E,sp vs H Q E→vs.length=2)
  (rd:∀ vs H Q E,sp vs H Q E→kO K   { nx:=fun _ H'=>Q .non H',rt:=Q } (bB ["table","told"] vs) H):FnOk P w K mg base CX0 1 f fd ["table","told"] sp:=by
 refine F.ok iU len (fun cdv A outer s H vs Q E hr h=>⟨_,?_,rd vs H Q E h⟩)
 have nd:=iU.nd
 exact (@aC _ _ _ _ _ (@bJ _ _ _ _ (aR (qV (K:=K) rfl rfl) rfl B.sum aBw (cP (eK (N':=["k","table","told"]) (ix:=[none,some 0,some 1]) rfl rfl rfl (eW rfl B.range (@bI _ _ _ _ _ _ _ _ (aR (bL (K:=K) rfl) rfl B.len dJ (@aA _ _ _ _ _ _ (pv 1) aE)) aE)) (fun _ _ _=>(bE (i:=0) (show (["k","table","told"]:List Str).Nodup from by decide +kernel) rfl (Or.inl rfl))) (fun _ _ _ => .nil) (fun _ _ _ _=>(dC rfl (@cL _ _ _ _ _ _ _ (bH (K:=K) rfl) (@cL _ _ _ _ _ _ _ (bH (K:=K) rfl) (pv 1) (@cL _ _ _ _ _ _ _ (bH (K:=K) rfl) (pv 2) (@bK _ _ _ _ _ _ _ _ aDj (pv 0) aK) (fun _ _=>rfl)) (fun _ _=>rfl)) (@cL _ _ _ _ _ _ _ (bH (K:=K) rfl) (pv 2) (pv 0) (fun _ _=>rfl)) (fun _ _=>rfl)) rfl))) aE))) aI)
theorem fW:bA ["table","told","is_small","least","best","floors","found"] ["table","told","is_small"] (aG (top 32)):=⟨rfl,rfl,rfl,by decide +kernel,rfl,by decide +kernel,by decide +kernel⟩
noncomputable def gU (K:PySem.W.Frag)  (cY:Sp) (cZ:Sp) (dZ:Sp) (fO:Sp) (bG:Sp) (fP:Sp):TS:=(aS (dB (aW fP [] E0 (aB (aF 0) aQ)) (aBr K 3 (iF (aN 3) (iF (aN 4) (iF (aN 5) aBH))))) (aS (dB (aW dZ [] E0 (aB (aF 0) (aB (aF 1) aQ))) (aN 6)) (aS (mY (tOr (eY (tOp oO (aW cZ [] E0 (aB (aF 0) (aB (aF 6) aQ))) (tC (.bl true)))) (eY (tOp oO (aW bG [] E0 (aB (aF 0) (aB (tOp (cQ K) (aF 6) (tUn aCy (tC (.int 1)))) aQ))) (tC (.bl true))))) (aS (eD (tC (.bl false))) aO) aO) (aS (mY (tOr (zN (tB (tCB (aCO K) (aB (eV [none,some 0] (uQ K (aF 6)) (aN 0) [] fun acc=>(dO (tOp aEq (aW fO [] E0 (aB (aF 1) (aB (aF 0) aQ))) (tC (.bl true))) acc)) aQ)))) (eY (tOp yLt (aW cY [] E0 (aB (aF 0) (aB (tOp (cQ K) (aF 6) (tUn aCy (tC (.int 1)))) aQ))) (aF 3)))) (aS (eD (tC (.bl false))) aO) aO) (aS (mY (tOr (eY (tOp oO (aW bG [] E0 (aB (aF 0) (aB (aF 4) aQ))) (tC (.bl true)))) (eY (tOp (aCP K) (tCB (aAQ K) (aB (aW dZ [] E0 (aB (aF 0) (aB (aF 4) aQ))) aQ)) (tCB (aAQ K) (aB (rT (aB (aF 4) aQ)) aQ))))) (aS (eD (tC (.bl false))) aO) aO) (aS (mY (eY (tOp (aCP K) (aW bG [] E0 (aB (aF 0) (aB (aF 1) aQ))) (tOp (sP K) (tCB (oY K) (aB (aF 6) aQ)) (tC (.int 1))))) (aS (eD (tC (.bl false))) aO) aO) (aS (eD (aCM (aCe (aF 2)) (tOp (sP K) (aW cY [] E0 (aB (aF 0) (aB (tOp (cQ K) (aF 6) (tUn aCy (tC (.int 1)))) aQ))) (aF 3)))) aO)))))))
theorem mU (F:Fun K "_law_e_right" "_law_e_right" (top 32) f fd)(B:jO mg)    {cY:Sp}(eJ:Def P w K mg base "_law_e_sum" 1 ["table","told"] cY){cZ:Sp}(eQ:Def P w K mg base "are_bettered" 5 ["table","some"] cZ){dZ:Sp}(gP:Def P w K mg base "bettered" 4 ["table","round_"] dZ){fO:Sp}(kG:Def P w K mg base "is_round" 3 ["table","thing"] fO){bG:Sp}(bY:Def P w K mg base "is_settled" 4 ["table","round_"] bG){fP:Sp}(kH:Def P w K mg base "shortest" 4 ["table"] fP)  {sp:Sp}(len:∀ vs H Q E,sp vs H Q E→vs.length=3)
  (rd:∀ vs H Q E,sp vs H Q E→gU K  cY cZ dZ fO bG fP { nx:=fun _ H'=>Q .non H',rt:=Q } (bB ["table","told","is_small","least","best","floors","found"] vs) H):FnOk P w K mg base CX0 6 f fd ["table","told","is_small"] sp:=by
 refine F.ok fW len (fun cdv A outer s H vs Q E hr h=>⟨_,?_,rd vs H Q E h⟩)
 have nd:=fW.nd
 exact (@aC _ _ _ _ _ (lB (aX (kH.mono (by decide)) hr rfl (@aA _ _ _ _ _ _ (pv 0) aE)) (lN (K:=K) rfl rfl (cS (bE (i:=3) nd rfl (Or.inl rfl)) (cS (bE (i:=4) nd rfl (Or.inl rfl)) (cS (bE (i:=5) nd rfl (Or.inl rfl)) mN))))) (@aC _ _ _ _ _ (@bO _ _ 6 _ _ _ _ nd rfl (Or.inl rfl) (aX (gP.mono (by decide)) hr rfl (@aA _ _ _ _ _ _ (pv 0) (@aA _ _ _ _ _ _ (pv 1) aE))) (by rfl) (by first | exact .inl rfl | exact .inr rfl | assumption)) (@aC _ _ _ _ _ (@iQ _ _ _ _ _ _ _ _ (PW.pt (aCH (cH mB (aX (eQ.mono (by decide)) hr rfl (@aA _ _ _ _ _ _ (pv 0) (@aA _ _ _ _ _ _ (pv 6) aE))) kW (bQ _)) (zI (cH mB (aX (bY.mono (by decide)) hr rfl (@aA _ _ _ _ _ _ (pv 0) (@cI _ _ _ _ _ _ _ (@cL _ _ _ _ _ _ _ (bH (K:=K) rfl) (pv 6) (tD mD aK) (fun _ _=>rfl)) aE))) kW (bQ _))))) (@aC _ _ _ _ _ (@bJ _ _ _ _ kW) aI) aI) (@aC _ _ _ _ _ (@iQ _ _ _ _ _ _ _ _ (PW.pt (aCH (tU (zL (aR (mI (K:=K) rfl rfl) rfl B.all yX (cP (eK (N':=["one","table"]) (ix:=[none,some 0]) rfl rfl rfl (gA (K:=K) rfl (pv 6)) (fun _ _ _=>(bE (i:=0) (show (["one","table"]:List Str).Nodup from by decide +kernel) rfl (Or.inl rfl))) (fun _ _ _ => .nil) (fun _ _ _ _=>(dC rfl (dD aDE (aX (kG.mono (by decide)) hr rfl (@aA _ _ _ _ _ _ (pv 1) (@aA _ _ _ _ _ _ (pv 0) aE))) kW (bQ _)) rfl))) aE)))) (zI (cH qX (aX (eJ.mono (by decide)) hr rfl (@aA _ _ _ _ _ _ (pv 0) (@cI _ _ _ _ _ _ _ (@cL _ _ _ _ _ _ _ (bH (K:=K) rfl) (pv 6) (tD mD aK) (fun _ _=>rfl)) aE))) (pv 3) (bQ _))))) (@aC _ _ _ _ _ (@bJ _ _ _ _ kW) aI) aI) (@aC _ _ _ _ _ (@iQ _ _ _ _ _ _ _ _ (PW.pt (aCH (cH mB (aX (bY.mono (by decide)) hr rfl (@aA _ _ _ _ _ _ (pv 0) (@aA _ _ _ _ _ _ (pv 4) aE))) kW (bQ _)) (zI (cH (tN (K:=K) rfl hr) (aR (nY (K:=K) rfl hr) rfl B.repr yS (@bI _ _ _ _ _ _ _ _ (aX (gP.mono (by decide)) hr rfl (@aA _ _ _ _ _ _ (pv 0) (@aA _ _ _ _ _ _ (pv 4) aE))) aE)) (aR (nY (K:=K) rfl hr) rfl B.repr yS (@aAG _ _ _ _ _ _ (@fT _ _ _ _ (@aA _ _ _ _ _ _ (pv 4) aE)) aE)) (bQ _))))) (@aC _ _ _ _ _ (@bJ _ _ _ _ kW) aI) aI) (@aC _ _ _ _ _ (@iQ _ _ _ _ _ _ _ _ (cH (tN (K:=K) rfl hr) (aX (bY.mono (by decide)) hr rfl (@aA _ _ _ _ _ _ (pv 0) (@aA _ _ _ _ _ _ (pv 1) aE))) (dD (iZ (K:=K) rfl hr) (aR (bL (K:=K) rfl) rfl B.len dJ (@aA _ _ _ _ _ _ (pv 6) aE)) aK (bQ _)) (bQ _)) (@aC _ _ _ _ _ (@bJ _ _ _ _ kW) aI) aI) (@aC _ _ _ _ _ (@bJ _ _ _ _ (aEg (aBA (pv 2)) (kL (dD (iZ (K:=K) rfl hr) (aX (eJ.mono (by decide)) hr rfl (@aA _ _ _ _ _ _ (pv 0) (@cI _ _ _ _ _ _ _ (@cL _ _ _ _ _ _ _ (bH (K:=K) rfl) (pv 6) (tD mD aK) (fun _ _=>rfl)) aE))) (pv 3) (bQ _))))) aI)))))))
theorem aBj:bA ["script","pen","turn","many","table"] ["script"] (aG (top 33)):=⟨rfl,rfl,rfl,by decide +kernel,rfl,by decide +kernel,by decide +kernel⟩
noncomputable def aDP (K:PySem.W.Frag)  (dA:Sp) (bV:Sp) (bW:Sp) (aJ:Sp) (cG:Sp):TS:=(aS (dB (aW dA [] E0 (aB (aF 0) aQ)) (aN 1)) (aS (rQ (nF (aB (tC (.int 6)) aQ)) (aN 2) (aS (dB (tOp (bD K) (tC (.int 1)) (aW aJ [] E0 (aB (aF 1) (aB (tOp (cQ K) (rT (aB (tC (.int 4)) (aB (tC (.int 7)) aQ))) (tCB xF (aB (tOp yGt (aF 2) (tC (.int 3))) aQ))) aQ)))) (aN 3)) (aS (dB (aW bW [] E0 (aB (aF 1) (aB (aF 3) (aB (aCM (tOp yLt (aF 2) (tC (.int 4))) (tOp (sP K) (aW aJ [] E0 (aB (aF 1) (aB (tC (.int 2)) aQ))) (tC (.int 0)))) aQ)))) (aN 4)) (aS (mY (zN (tB (aW bV [] E0 (aB (aF 4) (aB (aW cG [] E0 (aB (aF 1) (aB (aF 3) aQ))) (aB (tOp yLt (aF 2) (tC (.int 4))) aQ)))))) (aS (eD (tC (.bl false))) aO) aO) aO)))) (aS (eD (tC (.bl true))) aO)))
theorem aDh (F:Fun K "law" "law" (top 33) f fd)(B:jO mg)    {dA:Sp}(gF:Def P w K mg base "_law_e_pen" 1 ["script"] dA){bV:Sp}(eR:Def P w K mg base "_law_e_right" 6 ["table","told","is_small"] bV){bW:Sp}(eS:Def P w K mg base "_law_e_table" 3 ["pen","many","even"] bW){aJ:Sp}(aZ:Def P w K mg base "_law_e_take" 2 ["pen","many"] aJ){cG:Sp}(fQ:Def P w K mg base "_law_e_tour" 3 ["pen","many"] cG)  {sp:Sp}(len:∀ vs H Q E,sp vs H Q E→vs.length=1)
  (rd:∀ vs H Q E,sp vs H Q E→aDP K  dA bV bW aJ cG { nx:=fun _ H'=>Q .non H',rt:=Q } (bB ["script","pen","turn","many","table"] vs) H):FnOk P w K mg base CX0 7 f fd ["script"] sp:=by
 refine F.ok aBj len (fun cdv A outer s H vs Q E hr h=>⟨_,?_,rd vs H Q E h⟩)
 have nd:=aBj.nd
 exact (@aC _ _ _ _ _ (@bO _ _ 1 _ _ _ _ nd rfl (Or.inl rfl) (aX (gF.mono (by decide)) hr rfl (@aA _ _ _ _ _ _ (pv 0) aE)) (by rfl) (by first | exact .inl rfl | exact .inr rfl | assumption)) (@aC _ _ _ _ _ (iW PassesOwn.never rfl (eW rfl B.range (@bF _ _ _ _ _ _ _ aK aE)) (bE (i:=2) nd rfl (Or.inl rfl)) (@aC _ _ _ _ _ (@bO _ _ 3 _ _ _ _ nd rfl (Or.inl rfl) (@bK _ _ _ _ _ _ _ _ (bC (K:=K) rfl) aK (aX (aZ.mono (by decide)) hr rfl (@aA _ _ _ _ _ _ (pv 1) (@cI _ _ _ _ _ _ _ (@cL _ _ _ _ _ _ _ (bH (K:=K) rfl) (@fT _ _ _ _ (@bF _ _ _ _ _ _ _ aK (@bF _ _ _ _ _ _ _ aK aE))) (cM oC rfl B.int xU (cP (dD aCX (pv 2) aK (bQ _)) aE)) (fun _ _=>rfl)) aE)))) (by rfl) (by first | exact .inl rfl | exact .inr rfl | assumption)) (@aC _ _ _ _ _ (@bO _ _ 4 _ _ _ _ nd rfl (Or.inl rfl) (aX (eS.mono (by decide)) hr rfl (@aA _ _ _ _ _ _ (pv 1) (@aA _ _ _ _ _ _ (pv 3) (cP (aEg (dD qX (pv 2) aK (bQ _)) (kL (dD (iZ (K:=K) rfl hr) (aX (aZ.mono (by decide)) hr rfl (@aA _ _ _ _ _ _ (pv 1) (@bF _ _ _ _ _ _ _ aK aE))) aK (bQ _)))) aE)))) (by rfl) (by first | exact .inl rfl | exact .inr rfl | assumption)) (@aC _ _ _ _ _ (@iQ _ _ _ _ _ _ _ _ (tU (zL (aX (eR.mono (by decide)) hr rfl (@aA _ _ _ _ _ _ (pv 4) (@bI _ _ _ _ _ _ _ _ (aX (fQ.mono (by decide)) hr rfl (@aA _ _ _ _ _ _ (pv 1) (@aA _ _ _ _ _ _ (pv 3) aE))) (cP (dD qX (pv 2) aK (bQ _)) aE)))))) (@aC _ _ _ _ _ (@bJ _ _ _ _ kW) aI) aI) aI)))) (@aC _ _ _ _ _ (@bJ _ _ _ _ kW) aI)))
end
end K60
namespace K60
open PySem L2
theorem oZ {a m j:Int}(h0:0<m)(h1:m≤4611686018427387904):CMul (a % m) j := .inl ⟨by have:=Int.emod_nonneg a (show m≠0 by omega);omega,by have:=Int.emod_lt_of_pos a h0;omega⟩
noncomputable def aEx (l:Addr) (k:Nat) (z:Int):HO := .lst [.ref l, .int (k:Int), .int z]
noncomputable def PenAt (H:Hp) (p l:Addr) (ns:List Int) (k:Nat) (z:Int):Prop:=H p=some (aEx l k z)∧H l=some (.lst (ns.map V.int))∧l≠p
noncomputable def aDy (K:PySem.W.Frag):TS:=(aS (mY (eY (tOp yGe (aF 2) (tOp aFz (tC (.int 10)) (tC (.int 18))))) (aS (eD (aF 2)) aO) aO) (aS (dB (tOp vS (tOp (bD K) (tOp (bD K) (tOp eN (tOp vS (aF 2) (tC (.int 2147483423))) (tC (.int 60013))) (tOp eN (aF 1) (tC (.int 40692)))) (tC (.int 17))) (tC (.int 2147483399))) (aN 3)) (aS (dB (tOp vS (tOp (bD K) (tOp (bD K) (tOp eN (aF 3) (aF 3)) (tOp eN (aF 1) (tC (.int 811)))) (tC (.int 3))) (tC (.int 2147483353))) (aN 4)) (aS (eD (tOp (bD K) (tOp eN (tOp (bD K) (aF 4) (tC (.int 2147483353))) (tC (.int 2147483353))) (tOp vS (tOp (bD K) (tOp eN (aF 4) (aF 4)) (aF 3)) (tC (.int 2147483353))))) aO))))
section
variable {K:PySem.W.Frag}
noncomputable def oT:Sp:=fun vs H Q _=>∃ (p l:Addr) (ns:List Int) (k:Nat) (z:Int),vs=[.ref p]∧PenAt H p l ns k z∧k≤100000∧∀ v:Int,Q (.int v) (upd H p (aEx l (k+1) z))
theorem lF {G:Hp}{p:Addr}{k:Nat}{c:Int}{Q:VK}(hk:k≤100000)(q:∀ v:Int,Q (.int v) G):aDy K { nx:=fun _ H'=>Q .non H',rt:=Q } [some (.ref p),some (.int (k:Int)),some (.int c),none,none] G:=by
 refine ⟨_,rfl,10,18,rfl,rfl,⟨by decide,by decide,by decide⟩,_,_,rfl,rfl,_,rfl,aFr (fun c1=>⟨_,rfl,q c⟩) fun c1=>?_⟩
 refine ⟨_,rfl,_,_,rfl,rfl,by show (0:Int)<2147483423;decide, .inr ⟨by decide,by decide⟩,_,rfl, .inr ⟨by decide,by decide⟩,_,_,rfl,rfl,by show (0:Int)<2147483399;decide,?_⟩
 refine ⟨_,rfl,_,rfl,oZ (by decide) (by decide),_,rfl, .inr ⟨by decide,by decide⟩,_,_,rfl,rfl,by show (0:Int)<2147483353;decide,?_⟩
 exact ⟨_,rfl, .inr ⟨by decide,by decide⟩,_,rfl,_,rfl,oZ (by decide) (by decide),_,rfl,_,_,rfl,rfl,by show (0:Int)<2147483353;decide,q _⟩
theorem aAg:∀ vs H Q E,oT vs H Q E→gT K { nx:=fun _ H'=>Q .non H',rt:=Q } (bB ["pen","at","cell","one","two"] vs) H:=by
 intro vs H Q E h
 obtain ⟨p,l,ns,k,z,rfl,⟨hp,hl,hlp⟩,hk,q⟩:=h
 refine ⟨_,rfl,ixL (j:=1) (.of hp) rfl ?_⟩
 refine ⟨_,rfl,_,rfl,p,_,1,1,rfl,rfl,hp,rfl,?_⟩
 have hG:(upd H p (.lst ([.ref l, .int (k:Int), .int z].set 1 (.int ((k:Int)+1))))) p=some (aEx l (k+1) z):=by rw [aD];rfl
 have hlG:(upd H p (.lst ([.ref l, .int (k:Int), .int z].set 1 (.int ((k:Int)+1))))) l=some (.lst (ns.map V.int)):=by rw [aP hlp];exact hl
 have q':∀ v:Int,Q (.int v) (upd H p (.lst ([.ref l, .int (k:Int), .int z].set 1 (.int ((k:Int)+1))))):=q
 generalize upd H p (.lst ([.ref l, .int (k:Int), .int z].set 1 (.int ((k:Int)+1))))=G at *
 refine ⟨_,rfl,_,rfl, .inl ⟨by omega,by omega⟩,?_⟩
 refine ⟨_,rfl,_,rfl,ixL (j:=0) (.of hG) rfl ⟨l,_,rfl, .inl (.of hlG),_,_,rfl,rfl,_,rfl,?_⟩⟩
 rw [List.length_map]
 by_cases c1:k<ns.length
 ·refine jP (decide_eq_true (by omega)) ?_
  refine ⟨_,rfl,ixL (j:=0) (.of hG) rfl ⟨_,rfl,ixL (j:=k) (v := .int (ns.getD k 0)) (.of hlG) (by rw [List.getElem?_map,L2.jT c1];rfl) ?_⟩⟩
  exact lF hk q'
 ·refine eM (decide_eq_false (by omega)) ?_
  refine ⟨_,rfl,ixL (j:=0) (.of hG) rfl ⟨l,_,rfl, .inl (.of hlG),_,_,rfl,rfl,_,rfl,?_⟩⟩
  rw [List.length_map]
  by_cases c2:0<ns.length
  ·refine jP (decide_eq_true (by omega)) ?_
   obtain ⟨j,ej,hj⟩:=zH (c:=(k:Int)*3) (n:=ns.length) c2
   refine ⟨_,rfl,_,rfl,ixL (j:=0) (.of hG) rfl ⟨_,rfl, .inr ⟨by decide,by decide⟩,_,rfl,ixL (j:=0) (.of hG) rfl ⟨l,_,rfl, .inl (.of hlG),?_⟩⟩⟩
   rw [List.length_map]
   refine tW c2 ej ?_
   refine ixL (j:=j) (v := .int (ns.getD j 0)) (.of hlG) (by rw [List.getElem?_map,L2.jT hj];rfl) ⟨_,_,rfl,rfl,by show (0:Int)<1000003;decide,_,rfl,oZ (by decide) (by decide),?_⟩
   exact lF hk q'
  ·refine eM (decide_eq_false (by omega)) ?_
   exact lF hk q'
noncomputable def eZ:Sp:=fun vs H Q _=>∃ (p l:Addr) (ns:List Int) (k:Nat) (z:Int) (m:Nat),vs=[.ref p, .int (m:Int)]∧PenAt H p l ns k z∧k≤100000∧1≤m∧m≤1000001∧∀ (r k':Nat) (z':Int) H',r<m→k'≤k+1→PenAt H' p l ns k' z'→SameX p H H'→Q (.int (r:Int)) H'
theorem PenAt.put {H:Hp}{p l:Addr}{ns:List Int}{k k':Nat}{z z':Int}(h:PenAt H p l ns k z):PenAt (upd H p (aEx l k' z')) p l ns k' z':=⟨aD,by rw [aP h.2.2];exact h.2.1,h.2.2⟩
theorem PenAt.x {H H':Hp}{p l:Addr}{ns:List Int}{k:Nat}{z:Int}(h:PenAt H p l ns k z)(s:Same H H'):PenAt H' p l ns k z:=⟨s _ _ h.1,s _ _ h.2.1,h.2.2⟩
theorem aBT:∀ vs H Q E,eZ vs H Q E→iM K oT { nx:=fun _ H'=>Q .non H',rt:=Q } (bB ["pen","many","found"] vs) H:=by
 intro vs H Q E h
 obtain ⟨p,l,ns,k,z,m,rfl,hP,hk,h1,hm,q⟩:=h
 have rest:∀ (G:Hp) (k':Nat) (z':Int),PenAt G p l ns k' z'→k'≤k+1→SameX p H G→aS (dB (tOp vS (tOp (cQ K) (aF 0) (tC (.int 2))) (aF 1)) (aN 2)) (aS (dB (tOp aFk (tOp (cQ K) (aF 0) (tC (.int 2))) (aF 1)) (vN (aF 0) (tC (.int 2)) jY)) (aS (eD (aF 2)) aO)) { nx:=fun _ H'=>Q .non H',rt:=Q } [some (.ref p),some (.int (m:Int)),none] G:=fun G k' z' hG hk' sx=>by
  obtain ⟨r,er,hr⟩:=zH (c:=z') (n:=m) h1
  refine ⟨_,rfl,ixL (j:=2) (.of hG.1) rfl ⟨_,rfl,tW h1 er ?_⟩⟩
  refine ⟨_,rfl,ixL (j:=2) (.of hG.1) rfl ⟨_,rfl,_,_,rfl,rfl,⟨by omega,by omega⟩,_,rfl,p,_,2,2,rfl,rfl,hG.1,rfl,?_⟩⟩
  exact ⟨_,rfl,q r k' (z' / (m:Int)) _ hr hk' hG.put (sx.trans (SameX.put _))⟩
 refine ⟨_,rfl,ixL (j:=2) (.of hP.1) rfl ⟨_,rfl,_,_,rfl,rfl,_,rfl,aFr (fun c1=>?_) fun c1=>?_⟩⟩
 ·refine ⟨_,rfl,p,l,ns,k,z,rfl,hP,hk,fun v=>⟨_,rfl,p,_,2,2,rfl,rfl,aD,rfl,?_⟩⟩
  exact rest _ (k+1) v hP.put.put (by omega) ((SameX.put _).trans (SameX.put _))
 ·exact rest H k z hP (by omega) (SameX.refl _ _)
end
end K60
namespace K60
open PySem L2
noncomputable def Bnd (M:List (List Int)) (n:Nat):Prop:=∀ i j,i<n→j<n→0≤at2 M i j∧at2 M i j≤1000000∧at2 M i i=0
theorem aCr {M:List (List Int)}{n i j:Nat}{v:Int}(b:Bnd M n)(q:Quad M n)(hi:i<n)(hj:j<n)(h0:0≤v)(h1:v≤1000000)(hne:i≠j):Bnd (xO M i j v) n:=by
 intro a c ha hc
 rw [yC q hi hj,yC q hi hj]
 have:=b a c ha hc
 refine ⟨?_,?_,?_⟩
 ·split <;> omega
 ·split <;> omega
 ·rw [if_neg (by rintro ⟨rfl,rfl⟩;exact hne rfl)];exact this.2.2
theorem aBs {n a b:Nat}:at2 (List.replicate n (List.replicate n 0)) a b=0:=by
 unfold at2
 have:(List.replicate n (List.replicate n (0:Int))).getD a []=[]∨(List.replicate n (List.replicate n (0:Int))).getD a []=List.replicate n 0:=by
  rw [List.getD_eq_getElem?_getD,List.getElem?_replicate]
  split
  ·exact .inr rfl
  ·exact .inl rfl
 rcases this with e | e
 ·rw [e];rfl
 ·rw [e,List.getD_eq_getElem?_getD,List.getElem?_replicate]
  split <;> rfl
structure Mid (G:Hp)(p l F:Addr)(ls:List Addr)(ns:List Int)(n kb:Nat)(H':Hp):Prop where
 ex:∃ (M:List (List Int)) (k:Nat) (z:Int),Quad M n∧Bnd M n∧Mat H' F ls M∧PenAt H' p l ns k z∧k≤kb∧SameX p G H'
structure Old (G:Hp)(p l F:Addr)(ls:List Addr):Prop where
 p:∃ o,G p=some o
 l:∃ o,G l=some o
 F:G F=none
 ls:∀ x∈ls,G x=none
section
variable {K:PySem.W.Frag}{G:Hp}{p l F:Addr}{ls:List Addr}{ns:List Int}{n kb:Nat}{H4:Hp}
theorem Mid.le {kc:Nat}(h:kb≤kc)(m:Mid G p l F ls ns n kb H4):Mid G p l F ls ns n kc H4:=by
 obtain ⟨M,k,z,a,b,c,d,e,f⟩:=m.ex
 exact ⟨M,k,z,a,b,c,d,by omega,f⟩
theorem sM {σ:St}{t si sj i j:Nat}{v:Int}{N:St→Hp→Prop}(o:Old G p l F ls)(m:Mid G p l F ls ns n kb H4)(ht:σ[t]?=some (some (.ref F)))(hsi:σ[si]?=some (some (.int (i:Int))))(hsj:σ[sj]?=some (some (.int (j:Int))))(hi:i<n)(hj:j<n)(hne:i≠j)(h0:0≤v)(h1:v≤1000000)
  (q:∀ H5,Mid G p l F ls ns n kb H5→N σ H5):vN (tOp (cQ K) (aF t) (aF si)) (aF sj) jY (.int v) σ H4 N:=by
 obtain ⟨M,k,z,qM,bM,mM,hP,hk,sx⟩:=m.ex
 refine aCx mM qM ht hsi hsj hi hj fun l' H5 hl' e5 m5=>q H5 ⟨_,k,z,zC qM hi,aCr bM qM hi hj h0 h1 hne,m5,?_,hk,fun b u hb e=>?_⟩
 ·obtain ⟨op,hop⟩:=o.p
  obtain ⟨ol,hol⟩:=o.l
  have n1:p≠l':=aM hop (o.ls l' hl')
  have n2:l≠l':=aM hol (o.ls l' hl')
  rw [e5]
  exact ⟨by rw [aP n1];exact hP.1,by rw [aP n2];exact hP.2.1,hP.2.2⟩
 ·rw [e5,aP (aM e (o.ls l' hl'))]
  exact sx _ _ hb e
theorem aEc {σ:St}{t si sj i j:Nat}{Q:VK}(m:Mid G p l F ls ns n kb H4)(ht:σ[t]?=some (some (.ref F)))(hsi:σ[si]?=some (some (.int (i:Int))))(hsj:σ[sj]?=some (some (.int (j:Int))))(hi:i<n)(hj:j<n)
  (q:∀ v:Int,0≤v→v≤1000000→Q (.int v) H4):tOp (cQ K) (tOp (cQ K) (aF t) (aF si)) (aF sj) σ H4 Q:=by
 obtain ⟨M,k,z,qM,bM,mM,hP,hk,sx⟩:=m.ex
 have:=bM i j hi hj
 exact aDg mM qM ht hsi hsj hi hj (q _ this.1 this.2.1)
theorem tL {Q:VK}{σ:St}{a c t:Nat}(ha:σ[a]?=some (some (.ref p)))(hc:σ[c]?=some (some (.int (t:Int))))(o:Old G p l F ls)(m:Mid G p l F ls ns n kb H4)(hb:kb≤100000)(h1:1≤t)(h2:t≤1000001)(q:∀ (r:Nat) H5,r<t→Mid G p l F ls ns n (kb+1) H5→Q (.int (r:Int)) H5):aW eZ [] E0 (aB (aF a) (aB (aF c) aQ)) σ H4 Q:=by
 obtain ⟨M,k,z,qM,bM,mM,hP,hk,sx⟩:=m.ex
 refine ⟨_,ha,_,hc,p,l,ns,k,z,t,rfl,hP,by omega,h1,h2,fun r k' z' H5 hr hk' hP' sx'=>q r H5 hr ⟨M,k',z',qM,bM,mM.keep fun b u hb e=>sx' b u (fun z=>?_) e,hP',by omega,sx.trans sx'⟩⟩
 obtain ⟨op,hop⟩:=o.p
 rcases hb with rfl | hb
 ·exact aM hop o.F z.symm
 ·exact aM hop (o.ls b hb) z.symm
noncomputable def jC (K:PySem.W.Frag):Sp:=fun vs H Q _=>∃ (p l:Addr) (ns:List Int) (k:Nat) (z:Int) (n:Nat) (ev:Bool),vs=[.ref p, .int (n:Int), .bl ev]∧PenAt H p l ns k z∧k≤90000∧1≤n∧n≤8 ∧
 ∀ (T:List (List Int)) (v:V) (k':Nat) (z':Int) H',Quad T n→Bnd T n→Sh K H' (mG T) v→PenAt H' p l ns k' z'→k'≤k+200→SameX p H H'→Q v H'
theorem PenAt.ne {H:Hp}{k:Nat}{z:Int}(h:PenAt H p l ns k z){x:Addr}(hx:H x=none):x≠p∧x≠l:=⟨fun e=>(by rw [e,h.1] at hx;cases hx),fun e=>(by rw [e,h.2.1] at hx;cases hx)⟩
noncomputable def aCR (K:PySem.W.Frag)  (aJ:Sp):TS:=(aS (dB (tOp eN (tC (.int 999999)) (tCB xF (aB (tOp (sP K) (aF 3) (tC (.int 2))) aQ))) (aN 4)) (aS (dB (eV [none,some 1] (nF (aB (aF 1) aQ)) (aN 0) [] fun acc=>(dO (tOp eN (rT (aB (tC (.int 0)) aQ)) (aF 1)) acc)) (aN 5)) (aS (rQ (nF (aB (aF 1) aQ)) (aN 6) (aS (rQ (nF (aB (aF 6) aQ)) (aN 7) (aS (dB (tOp (bD K) (aF 4) (aW aJ [] E0 (aB (aF 0) (aB (aF 3) aQ)))) (vN (tOp (cQ K) (aF 5) (aF 6)) (aF 7) jY)) (aS (dB (tOp (cQ K) (tOp (cQ K) (aF 5) (aF 6)) (aF 7)) (vN (tOp (cQ K) (aF 5) (aF 7)) (aF 6) jY)) (aS (mY (zN (aEj K (aF 2))) (aS (dB (tOp (bD K) (aF 4) (aW aJ [] E0 (aB (aF 0) (aB (aF 3) aQ)))) (vN (tOp (cQ K) (aF 5) (aF 7)) (aF 6) jY)) aO) aO) aO)))) aO)) (aS (eD (tCB (iH K) (aB (eV [none] (uQ K (aF 5)) (aN 0) [] fun acc=>(dO (tCB (iH K) (aB (aF 0) aQ)) acc)) aQ))) aO))))
theorem wT {H H1:Hp}{k k1:Nat}{z1:Int}{ev:Bool}{t:Nat}{Q:VK}(hk:k≤90000)(h1:1≤n)(h8:n≤8)(hP:PenAt H1 p l ns k1 z1)(hk1:k1≤k+1)(sx1:SameX p H H1)(t1:2≤t)(t2:t≤1000001)
  (q:∀ (T:List (List Int)) (v:V) (k':Nat) (z':Int) H',Quad T n→Bnd T n→Sh K H' (mG T) v→PenAt H' p l ns k' z'→k'≤k+200→SameX p H H'→Q v H') :
  aCR K eZ { nx:=fun _ H'=>Q .non H',rt:=Q } [some (.ref p),some (.int (n:Int)),some (.bl ev),some (.int (t:Int)),none,none,none,none] H1:=by
 have lo:∃ lo:Int,999999*(if eqD (.int (t:Int)) (.int 2) then 1 else 0)=lo∧0≤lo∧lo+t≤1000001:=by
  refine ⟨_,rfl,?_⟩
  have e:eqD (.int (t:Int)) (.int 2)=decide ((t:Int)=2):=by rw [eqD];rfl
  rw [e]
  by_cases c:(t:Int)=2
  ·rw [decide_eq_true c]
   simp
   omega
  ·rw [decide_eq_false c]
   simp
   omega
 obtain ⟨lo,elo,lo0,lo1⟩:=lo
 refine ⟨_,rfl, .int _, .int 2,Nat.zero_le _,rfl,rfl, .inr ⟨_,rfl, .inl ⟨by decide,by decide⟩,?_⟩⟩
 dsimp only
 rw [elo]
 refine ⟨_,rfl,(n:Int),rfl,by omega,by omega,fun F hF=>?_⟩
 rw [Int.toNat_natCast]
 refine yP (vars:=[0]) (fun i L H'=>∃ ls:List Addr,L=ls.map V.ref∧ls.length=i∧ls.Nodup∧F∉ls∧(∀ l∈ls,H' l=some (.lst (List.replicate n (.int 0))))∧∀ l∈ls,H1 l=none) (by decide) (by show 0<2;decide) ⟨[],rfl,rfl,List.nodup_nil,by simp,by simp,by simp⟩ hF (fun i σ1 H2 L D hi l1 ag1 s1 sm1 ha1 ⟨ls,e1,e2,e3,e4,e5,e6⟩ hD=>?_) fun σ1 H2 L sm1 ha1 ⟨ls,e1,e2,e3,e4,e5,e6⟩=>?_
 ·have m1:σ1[1]?=some (some (.int (n:Int))):=(ag1 1 (by decide)).trans rfl
  refine ⟨by show 1≤sizeLine;decide,fun p' hp=>⟨_,m1,p',(n:Int),_,rfl,rfl,aD,by omega,by omega,?_,fun p2 hp2=>?_⟩⟩
  ·rw [Int.toNat_natCast]
   exact Nat.le_trans (show 1*n≤9 by omega) (by decide)
  have hpF:p'≠F:=fun e=>by rw [e,ha1] at hp;cases hp
  have hF2:upd H2 p' (.lst [V.int 0]) F=some (.lst L):=by rw [aP (Ne.symm hpF)];exact ha1
  have hp2F:p2≠F:=fun e=>by rw [e,hF2] at hp2;cases hp2
  rw [Int.toNat_natCast,List.flatten_replicate_singleton]
  refine ⟨L,by rw [aP (Ne.symm hp2F)];exact hF2,Nat.lt_of_le_of_lt (show L.length≤9 by rw [e1,List.length_map];omega) (by decide),?_⟩
  have keep:∀ b o,b≠F→H2 b=some o→upd (upd (upd H2 p' (.lst [V.int 0])) p2 (.lst (List.replicate n (V.int 0)))) F (.lst (L++[V.ref p2])) b=some o:=fun b o hb e=>by
   have e':upd H2 p' (.lst [V.int 0]) b=some o:=by rw [aP (aM e hp)];exact e
   rw [aP hb,aP (aM e' hp2)];exact e'
  refine hD σ1 _ (L++[.ref p2]) l1 ag1 (fun b o e=>keep b o (aM e hF) (sm1 _ _ e)) aD ⟨ls++[p2],by rw [e1,List.map_append];rfl,by rw [List.length_append,e2];rfl,?_,?_,?_,?_⟩
  ·refine wZ e3 fun hmem=>?_
   have g:=e5 p2 hmem
   have g':upd H2 p' (.lst [V.int 0]) p2=some (.lst (List.replicate n (.int 0))):=by rw [aP (aM g hp)];exact g
   rw [g'] at hp2;cases hp2
  ·intro hmem
   rcases List.mem_append.mp hmem with y | y
   ·exact e4 y
   ·exact hp2F (List.mem_singleton.mp y).symm
  ·intro x hx
   rcases List.mem_append.mp hx with y | y
   ·exact keep x _ (fun e=>e4 (e ▸ y)) (e5 x y)
   ·rw [List.mem_singleton.mp y,aP hp2F]
    exact aD
  ·intro x hx
   rcases List.mem_append.mp hx with y | y
   ·exact e6 x y
   ·rw [List.mem_singleton.mp y]
    exact (sm1.trans (aH hp _)).free hp2
 have mat0:Mat H2 F ls (List.replicate n (List.replicate n 0)):=by
  refine ⟨by rw [ha1,e1],by rw [e2,List.length_replicate],fun i x r a b=>?_,e3,e4⟩
  have:=e5 x (List.mem_of_getElem? a)
  rw [List.getElem?_replicate] at b
  split at b
  ·cases b
   rw [this,List.map_replicate]
  ·cases b
 have quad0:Quad (List.replicate n (List.replicate n (0:Int))) n:=⟨List.length_replicate,fun r hr=>by rw [List.eq_of_mem_replicate hr,List.length_replicate]⟩
 have old:Old H1 p l F ls:=⟨⟨_,hP.1⟩,⟨_,hP.2.1⟩,hF,e6⟩
 have mid0:Mid H1 p l F ls ns n k1 H2:=⟨_,k1,z1,quad0,fun i j _ _=>by rw [aBs,aBs];omega,mat0,hP.x sm1,Nat.le_refl _,sm1.x⟩
 refine ⟨_,rfl,(n:Int),rfl,by omega,by omega,?_⟩
 rw [Int.toNat_natCast]
 refine dY (lo:=0) (n:=n) (fun i σ' H'=>∃ a b,σ'=[some (.ref p),some (.int (n:Int)),some (.bl ev),some (.int (t:Int)),some (.int lo),some (.ref F),a,b]∧Mid H1 p l F ls ns n (k1+16*i) H') ⟨none,none,rfl,mid0⟩ (fun i σ2 H3 hi ⟨a,b,es,mid2⟩=>?_) fun σ2 H3 ⟨a,b,es,mid2⟩=>?_
 ·subst es
  rw [Int.zero_add]
  refine ⟨_,rfl,(i:Int),rfl,by omega,by omega,?_⟩
  rw [Int.toNat_natCast]
  refine dY (lo:=0) (n:=i) (fun j σ' H'=>∃ b,σ'=[some (.ref p),some (.int (n:Int)),some (.bl ev),some (.int (t:Int)),some (.int lo),some (.ref F),some (.int (i:Int)),b]∧Mid H1 p l F ls ns n (k1+16*i+2*j) H') ⟨b,rfl,mid2⟩ (fun j σ3 H4 hj ⟨b3,es3,mid3⟩=>?_) fun σ3 H4 ⟨b3,es3,mid3⟩=>⟨_,b3,es3,mid3.le (by omega)⟩
  subst es3
  rw [Int.zero_add]
  refine ⟨_,rfl,tL rfl rfl old mid3 (by omega) (by omega) t2 fun r H5 hr m5=>?_⟩
  dsimp only [bD]
  refine sM (t:=5) (si:=6) (sj:=7) old m5 rfl rfl rfl hi (by omega) (by omega) (by omega) (by omega) fun H6 m6=>?_
  refine aEc (t:=5) (si:=6) (sj:=7) m6 rfl rfl rfl hi (by omega) fun v v0 v1=>?_
  refine sM (t:=5) (si:=7) (sj:=6) old m6 rfl rfl rfl (by omega) hi (by omega) v0 v1 fun H7 m7=>?_
  refine ⟨_,rfl,_,rfl,?_⟩
  cases ev with
  | true=>exact aDA ⟨_,rfl,m7.le (by omega)⟩
  | false=>
   refine aEy ⟨_,rfl,tL rfl rfl old m7 (by omega) (by omega) t2 fun r2 H8 hr2 m8=>?_⟩
   dsimp only [bD]
   exact sM (t:=5) (si:=7) (sj:=6) old m8 rfl rfl rfl (by omega) hi (by omega) (by omega) (by omega) fun H9 m9=>⟨_,rfl,m9.le (by omega)⟩
 ·subst es
  obtain ⟨M,k3,z3,qM,bM,mM,hP3,hk3,f3⟩:=mid2.ex
  exact wQ (t:=5) rfl mM qM (by omega) fun p9 H' sm hS=>q M _ k3 z3 H' qM bM hS (hP3.x sm) (by omega) (sx1.trans (f3.trans sm.x))
theorem aCs:∀ vs H Q E,jC K vs H Q E→gZ K eZ { nx:=fun _ H'=>Q .non H',rt:=Q } (bB ["pen","many","even","top","low","lines","i","j"] vs) H:=by
 intro vs H Q E h
 obtain ⟨p,l,ns,k,z,n,ev,rfl,hP,hk,h1,h8,q⟩:=h
 refine ⟨show 6≤sizeLine by decide,fun p0 hp0=>⟨_,rfl,p,l,ns,k,z,6,rfl,hP.x (aH hp0 _),by omega,by decide,by decide,fun r k1 z1 H1 hr hk1 hP1 sx1=>?_⟩⟩
 have s0:=aH hp0 (.lst [.int 10, .int 1000001, .int 3, .int 60, .int 1001, .int 2])
 have e0:H1 p0=some (.lst [.int 10, .int 1000001, .int 3, .int 60, .int 1001, .int 2]):=sx1 _ _ (hP.ne hp0).1 aD
 have sx:=s0.x.trans sx1 (acc:=p)
 have go:∀ t:Nat,2≤t→t≤1000001→_:=fun t t1 t2=>wT (K:=K) (ev:=ev) hk h1 h8 hP1 hk1 sx t1 t2 q
 rcases r with _ | _ | _ | _ | _ | _ | r
 ·exact ixL (j:=0) (.of e0) rfl (go 10 (by decide) (by decide))
 ·exact ixL (j:=1) (.of e0) rfl (go 1000001 (by decide) (by decide))
 ·exact ixL (j:=2) (.of e0) rfl (go 3 (by decide) (by decide))
 ·exact ixL (j:=3) (.of e0) rfl (go 60 (by decide) (by decide))
 ·exact ixL (j:=4) (.of e0) rfl (go 1001 (by decide) (by decide))
 ·exact ixL (j:=5) (.of e0) rfl (go 2 (by decide) (by decide))
 ·omega
end
end K60
namespace K60
open PySem L2
noncomputable def pc (ps:List Nat) (b s:Nat):List Nat:=(ps.drop b).take s
noncomputable def rs (ps:List Nat) (b s:Nat):List Nat:=ps.take b++ps.drop (b+s)
noncomputable def mX (r p:List Nat) (i:Nat):List Nat:=r.take i++p++r.drop i
noncomputable def mvS (ps:List Nat) (b s:Nat):List (List Nat):=[ps.take b++(pc ps b s).reverse++ps.drop (b+s)]++if s≤3 then (List.range (rs ps b s).length).flatMap (fun i=>[mX (rs ps b s) (pc ps b s) (i+1),mX (rs ps b s) (pc ps b s).reverse (i+1)]) else []
noncomputable def mvA (ps:List Nat):List (List Nat):=(List.range (ps.length - 1)).flatMap fun i=>(List.range (i+1)).flatMap fun j=>mvS ps (j+1) (i+1 - j)
noncomputable def aFI (ps:List Nat) (b s i:Nat):Prop:=1≤b∧1≤s∧b+s≤ps.length∧((s<4∧1≤i∧i≤ps.length - s)∨(4≤s∧i=b))
noncomputable def uC (ps o:List Nat):Prop:=∃ b s i,aFI ps b s i∧(o=mX (rs ps b s) (pc ps b s).reverse i∨o=mX (rs ps b s) (pc ps b s) i)
theorem aDL {ps:List Nat}{b s:Nat}(h:b+s≤ps.length):(pc ps b s).length=s:=by
 unfold pc;rw [List.length_take,List.length_drop];omega
theorem rM {ps:List Nat}{b s:Nat}(h:b+s≤ps.length):(rs ps b s).length=ps.length - s:=by
 unfold rs;rw [List.length_append,List.length_take,List.length_drop];omega
theorem aAq {ps p:List Nat}{b s:Nat}(h:b+s≤ps.length):mX (rs ps b s) p b=ps.take b++p++ps.drop (b+s):=by
 have hb:(ps.take b).length=b:=by rw [List.length_take];omega
 unfold mX rs
 rw [List.take_append_of_le_length (by omega),List.take_of_length_le (by omega),List.drop_append_of_le_length (by omega),List.drop_of_length_le (by omega),List.nil_append]
theorem aFp {ps:List Nat}{b s:Nat}:ps.take b++pc ps b s++ps.drop (b+s)=ps:=by
 unfold pc
 rw [List.append_assoc,← List.drop_drop,List.take_append_drop,List.take_append_drop]
theorem aAi {ps:List Nat}{b s:Nat}(h:b+s≤ps.length):mX (rs ps b s) (pc ps b s) b=ps:=by
 rw [aAq h,aFp]
theorem tK {r p:List Nat}{i:Nat}:(mX r p i).Perm (r++p):=by
 unfold mX
 have h1:(r.take i++p++r.drop i).Perm (r.take i++r.drop i++p):=by
  rw [List.append_assoc,List.append_assoc]
  exact List.Perm.append_left _ List.perm_append_comm
 rw [List.take_append_drop] at h1
 exact h1
theorem xP {ps:List Nat}{b s:Nat}:(rs ps b s++pc ps b s).Perm ps:=by
 have h1:(ps.take b++ps.drop (b+s)++pc ps b s).Perm (ps.take b++pc ps b s++ps.drop (b+s)):=by
  rw [List.append_assoc,List.append_assoc]
  exact List.Perm.append_left _ List.perm_append_comm
 rw [aFp] at h1
 exact h1
theorem lM {ps o:List Nat}(h:uC ps o):o.Perm ps:=by
 obtain ⟨b,s,i,_,rfl | rfl⟩:=h
 ·exact (tK.trans (List.Perm.append_left _ (List.reverse_perm _))).trans xP
 ·exact tK.trans xP
theorem sQ {ps:List Nat}{b s:Nat}{o:List Nat}:o∈mvS ps b s↔o=ps.take b++(pc ps b s).reverse++ps.drop (b+s)∨(s≤3∧∃ i,i<(rs ps b s).length∧(o=mX (rs ps b s) (pc ps b s) (i+1)∨o=mX (rs ps b s) (pc ps b s).reverse (i+1))):=by
 unfold mvS
 rw [List.mem_append,List.mem_singleton]
 by_cases c:s≤3
 ·rw [if_pos c,List.mem_flatMap]
  constructor
  ·rintro (h | ⟨i,hi,h⟩)
   ·exact .inl h
   ·refine .inr ⟨c,i,List.mem_range.mp hi,?_⟩
    simpa using h
  ·rintro (h | ⟨_,i,hi,h⟩)
   ·exact .inl h
   ·exact .inr ⟨i,List.mem_range.mpr hi,by simpa using h⟩
 ·rw [if_neg c]
  constructor
  ·rintro (h | h)
   ·exact .inl h
   ·cases h
  ·rintro (h | ⟨h,_⟩)
   ·exact .inl h
   ·exact absurd h c
theorem rY {ps o:List Nat}:o∈mvA ps↔∃ b s,1≤b∧1≤s∧b+s≤ps.length∧o∈mvS ps b s:=by
 unfold mvA
 constructor
 ·intro h
  obtain ⟨i,hi,h⟩:=List.mem_flatMap.mp h
  obtain ⟨j,hj,h⟩:=List.mem_flatMap.mp h
  have:=List.mem_range.mp hi
  have:=List.mem_range.mp hj
  exact ⟨j+1,i+1 - j,by omega,by omega,by omega,h⟩
 ·rintro ⟨b,s,h1,h2,h3,h⟩
  refine List.mem_flatMap.mpr ⟨b+s - 2,List.mem_range.mpr (by omega),List.mem_flatMap.mpr ⟨b - 1,List.mem_range.mpr (by omega),?_⟩⟩
  rw [show b - 1+1=b by omega,show b+s - 2+1 - (b - 1)=s by omega]
  exact h
theorem pE {ps o:List Nat}(h:o∈mvA ps):uC ps o:=by
 obtain ⟨b,s,h1,h2,h3,h⟩:=rY.mp h
 rcases sQ.mp h with h | ⟨c,i,hi,h⟩
 ·by_cases c:s<4
  ·exact ⟨b,s,b,⟨h1,h2,h3, .inl ⟨c,h1,by omega⟩⟩, .inl (by rw [aAq h3];exact h)⟩
  ·exact ⟨b,s,b,⟨h1,h2,h3, .inr ⟨by omega,rfl⟩⟩, .inl (by rw [aAq h3];exact h)⟩
 ·rw [rM h3] at hi
  exact ⟨b,s,i+1,⟨h1,h2,h3, .inl ⟨by omega,by omega,by omega⟩⟩,h.symm⟩
theorem tJ {ps o:List Nat}(h:uC ps o):o=ps∨o∈mvA ps:=by
 obtain ⟨b,s,i,⟨h1,h2,h3,h4⟩,h⟩:=h
 rcases h4 with ⟨c,i1,i2⟩ | ⟨c,rfl⟩
 ·refine .inr (rY.mpr ⟨b,s,h1,h2,h3,sQ.mpr (.inr ⟨by omega,i - 1,by rw [rM h3];omega,?_⟩)⟩)
  rw [show i - 1+1=i by omega]
  exact h.symm
 ·rcases h with h | h
  ·exact .inr (rY.mpr ⟨i,s,h1,h2,h3,sQ.mpr (.inl (by rw [aAq h3] at h;exact h))⟩)
  ·exact .inl (by rw [aAi h3] at h;exact h)
noncomputable def stp (T:List (List Int)) (ps:List Nat) (k:Nat):Int:=match k with
 | 0=>at2 T (ps.getD (ps.length - 1) 0) (ps.getD 0 0)
 | k+1=>at2 T (ps.getD k 0) (ps.getD (k+1) 0)
noncomputable def gL (T:List (List Int)) (ps:List Nat):Int:=((List.range ps.length).map (stp T ps)).sum
noncomputable def aEp (T:List (List Int)) (ps:List Nat):Int:=((List.range ps.length).flatMap fun i=>[at2 T (ps.getD i 0) ((ps.drop 1++ps.take 1).getD i 0)]).sum
theorem aDl {ps:List Nat}{i:Nat}(h:i+1<ps.length):(ps.drop 1++ps.take 1).getD i 0=ps.getD (i+1) 0:=by
 rw [List.getD_eq_getElem?_getD,List.getElem?_append_left (by rw [List.length_drop];omega),List.getElem?_drop,← List.getD_eq_getElem?_getD,Nat.add_comm]
theorem aCl {ps:List Nat}{i:Nat}(h:i+1=ps.length):(ps.drop 1++ps.take 1).getD i 0=ps.getD 0 0:=by
 rw [List.getD_eq_getElem?_getD,List.getElem?_append_right (by rw [List.length_drop];omega),List.length_drop,show i - (ps.length - 1)=0 by omega]
 cases ps with
 | nil=>cases h
 | cons a ps=>rfl
theorem jI {α:Type}(f:Nat→α)(L:List Nat):(L.flatMap fun i=>[f i])=L.map f:=by
 induction L with
 | nil=>rfl
 | cons a L ih=>rw [List.flatMap_cons,ih];rfl
theorem lR {T:List (List Int)}{ps:List Nat}(h:1≤ps.length):aEp T ps=gL T ps:=by
 unfold aEp gL
 rw [jI]
 obtain ⟨m,hm⟩:∃ m,ps.length=m+1:=⟨ps.length - 1,by omega⟩
 rw [hm]
 have e1:(List.range (m+1)).map (stp T ps)=stp T ps 0 :: (List.range m).map (fun k=>stp T ps (k+1)):=by
  rw [List.range_succ_eq_map,List.map_cons,List.map_map];rfl
 have e2:(List.range (m+1)).map (fun i=>at2 T (ps.getD i 0) ((ps.drop 1++ps.take 1).getD i 0))=(List.range m).map (fun k=>stp T ps (k+1))++[stp T ps 0]:=by
  rw [List.range_succ,List.map_append,List.map_cons,List.map_nil]
  congr 1
  ·refine List.map_congr_left fun k hk=>?_
   have:=List.mem_range.mp hk
   show at2 T (ps.getD k 0) _=at2 T (ps.getD k 0) (ps.getD (k+1) 0)
   rw [aDl (by omega)]
  ·show [at2 T (ps.getD m 0) _]=[at2 T (ps.getD (ps.length - 1) 0) (ps.getD 0 0)]
   rw [aCl (by omega),show ps.length - 1=m by omega]
 rw [e1,e2,List.sum_append,List.sum_cons,List.sum_cons,List.sum_nil]
 omega
theorem aBD {L:List Int}{c:Int}(h:∀ x∈L,0≤x∧x≤c):0≤L.sum∧L.sum≤c*(L.length:Int):=by
 induction L with
 | nil=>simp
 | cons a L ih=>
  have:=h a (by simp)
  have:=ih fun x hx=>h x (List.mem_cons_of_mem _ hx)
  rw [List.sum_cons,List.length_cons]
  have e:c*((L.length+1:Nat):Int)=c*(L.length:Int)+c:=by
   rw [Int.natCast_add,Int.mul_add];simp
  rw [e]
  omega
theorem lQ {ps:List Nat}{n i:Nat}(hlt:∀ p∈ps,p<n)(h:i<ps.length):ps.getD i 0<n:=hlt _ (by rw [List.getD_eq_getElem?_getD,List.getElem?_eq_getElem h];exact List.getElem_mem h)
theorem aAO {T:List (List Int)}{n:Nat}{ps:List Nat}(b:∀ i j,i<n→j<n→0≤at2 T i j∧at2 T i j≤1000000)(hlt:∀ p∈ps,p<n)(h8:ps.length≤8):0≤gL T ps∧gL T ps≤8000000:=by
 have:=aBD (L:=(List.range ps.length).map (stp T ps)) (c:=1000000) fun x hx=>by
  obtain ⟨k,hk,rfl⟩:=List.mem_map.mp hx
  have hk':=List.mem_range.mp hk
  cases k with
  | zero=>exact b _ _ (lQ hlt (by omega)) (lQ hlt (by omega))
  | succ k=>exact b _ _ (lQ hlt (by omega)) (lQ hlt (by omega))
 rw [List.length_map,List.length_range] at this
 unfold gL
 omega
theorem sO {T:List (List Int)}{ps:List Nat}(h1:1≤ps.length):((mvA ps).filter (fun o=>decide (o≠ps))).filter (fun o=>decide (aEp T o<aEp T ps))=[]↔∀ o,uC ps o→gL T ps≤gL T o:=by
 rw [List.filter_eq_nil_iff]
 constructor
 ·intro h o ho
  rcases tJ ho with e | hm
  ·rw [e];exact Int.le_refl _
  ·have hl:o.length=ps.length:=(lM ho).length_eq
   by_cases c:o=ps
   ·rw [c];exact Int.le_refl _
   ·have:=h o (List.mem_filter.mpr ⟨hm,decide_eq_true c⟩)
    rw [lR (by omega),lR h1] at this
    have:=of_decide_eq_false (Bool.not_eq_true _ ▸ this:decide (gL T o<gL T ps)=false)
    omega
 ·intro h o ho
  have ho':=pE (List.mem_filter.mp ho).1
  have hl:o.length=ps.length:=(lM ho').length_eq
  have:=h o ho'
  rw [lR (by omega),lR h1,decide_eq_true_eq]
  omega
end K60
namespace L2
open PySem
theorem aAA {K:PySem.W.Frag}{vars:List Nat}{tb:TS}{acc l1 l2:Addr}{b1 b2:Bool}{σ:St}{H:Hp}{xs ys:List V}{j k:Nat}{L:Nat→List V}(hj:j∈vars)(hk:k∈vars)(hjk:k≠j)(hjl:j<σ.length)(hkl:k<σ.length)(hlen:ys.length=xs.length)(hs:∀ H',SameX acc H H'→SqB b1 K H' l1 xs∧SqB b2 K H' l2 ys)
  (h:∀ i x y σ' H',xs[i]?=some x→ys[i]?=some y→σ'.length=σ.length→Agree vars σ σ'→σ'[j]?=some (some x)→σ'[k]?=some (some y)→SameX acc H H'→(∃ pre,H' acc=some (.lst pre))→Emits vars tb acc σ' H' (L i)) :
  Emits vars (fK (Itz K b1 b2 l1 l2) (aBr K 2 (iF (aN j) (iF (aN k) aBH))) tb) acc σ H ((List.range xs.length).flatMap L):=by
 intro D pre ha hz hd
 refine aCz (K:=K) (xs:=xs) (ys:=ys) (D:=D) hlen (fun i σ' H'=>i≤xs.length∧σ'.length=σ.length∧Agree vars σ σ'∧SameX acc H H'∧H' acc=some (.lst (pre++(List.range i).flatMap L))) ⟨Nat.zero_le _,rfl,Agree.refl _ _,SameX.refl _ _,by simpa using ha⟩ (fun i σ1 H1 _ ⟨_,_,_,sx1,_⟩=>hs H1 sx1) (fun i x y σ1 H1 p hx hy hp ⟨_,hl1,ag1,sx1,e1⟩=>?_) fun σ1 H1 ⟨_,hl1,ag1,sx1,e1⟩=>hd σ1 H1 hl1 ag1 sx1 e1
 have hi:i<xs.length:=(List.getElem?_eq_some_iff.mp hx).1
 have hle:=cD L (show i+1≤xs.length from hi)
 rw [aL,List.length_append] at hle
 have sp:Same H1 (upd H1 p (.tup [x,y])):=aH hp _
 have e2:=sp _ _ e1
 refine ⟨p,[x,y],rfl, .of aD,rfl,x,[y],rfl,y,[],rfl,rfl,?_⟩
 have ag2:Agree vars σ ((σ1.set j (some x)).set k (some y)):=(ag1.trans (Agree.set hj _)).trans (Agree.set hk _)
 refine h i x y ((σ1.set j (some x)).set k (some y)) (upd H1 p (.tup [x,y])) hx hy (by rw [List.length_set,List.length_set];exact hl1) ag2 ?_ (kM (by rw [List.length_set];omega)) (sx1.trans sp.x) ⟨_,e2⟩ _ _ e2 (by rw [List.length_append];omega) fun σ' H' hl ag sx h2=>⟨hi,(hl.trans (by rw [List.length_set,List.length_set])).trans hl1,ag2.trans ag,(sx1.trans sp.x).trans sx,by rw [h2,aL,List.append_assoc]⟩
 rw [List.getElem?_set_ne hjk]
 exact kM (by omega)
end L2
namespace K60
open PySem L2
noncomputable def vV (T:List (List Int)) (ps:List Nat):Int:=((List.range ps.length).flatMap fun i=>[at2 T (ps.getD i 0) ((ps.drop 1++ps.take 1).getD i 0)]).sum
noncomputable def aCL (K:PySem.W.Frag):Sp:=fun vs H Q _=>∃ (v:V) (b:Addr) (T:List (List Int)) (n:Nat) (ps:List Nat),vs=[v, .ref b]∧Sh K H (mG T) v∧Quad T n∧n≤9∧SqT K H b (ps.map bX)∧ps.length=n∧1≤n∧(∀ p∈ps,p<n)∧∀ H',Same H H'→Q (.int (vV T ps)) H'
theorem aAh (ps:List Nat):kA (ps.map bX) (some 1) none=(ps.drop 1).map bX:=by
 unfold kA
 rw [show HT.sIx (ps.map bX).length 0 (some 1)=min 1 ps.length by rw [List.length_map];rfl]
 cases ps with
 | nil=>rfl
 | cons p ps=>
  simp [HT.sIx]
  exact List.take_of_length_le (by simp)
theorem aAp (ps:List Nat):kA (ps.map bX) none (some 1)=(ps.take 1).map bX:=by
 unfold kA
 cases ps with
 | nil=>rfl
 | cons p ps=>simp [HT.sIx]
section
variable {K:PySem.W.Frag}
theorem aEM:∀ vs H Q E,aCL K vs H Q E→tX K { nx:=fun _ H'=>Q .non H',rt:=Q } (bB ["table","round_","followers"] vs) H:=by
 intro vs H Q E h
 obtain ⟨v,b,T,n,ps,rfl,hS,hq,h9,hb,hl,h1,hlt,q⟩:=h
 refine ⟨_,rfl,_,rfl, .inr ⟨b,_,rfl,hb,fun p1 H1 s1 hp1=>?_⟩⟩
 rw [aAh] at hp1
 refine ⟨_,rfl,_,rfl, .inr ⟨b,_,rfl,s1.tup hb,fun p2 H2 s2 hp2=>?_⟩⟩
 rw [aAp] at hp2
 refine .inr ⟨p1,p2,_,_,rfl,rfl,s2.tup hp1,hp2,?_,fun p3 H3 _ hp3 s3=>?_⟩
 ·rw [List.length_map,List.length_map,List.length_drop,List.length_take]
  exact Nat.le_trans (show _≤20 by omega) (by decide)
 rw [← List.map_append] at hp3
 have sm:=(s1.trans s2).trans s3
 refine ⟨_,rfl,_,rfl,b,p3,false,false,rfl,⟨_,sm.tup hb⟩,⟨_,hp3⟩,fun acc hacc=>?_⟩
 have hln:((ps.drop 1++ps.take 1).map bX).length=(ps.map bX).length:=by
  rw [List.length_map,List.length_map,List.length_append,List.length_drop,List.length_take];omega
 have hfl:(ps.drop 1++ps.take 1).length=ps.length:=by rw [List.length_append,List.length_drop,List.length_take];omega
 refine fE [0,1] (((List.range ps.length).flatMap fun i=>[at2 T (ps.getD i 0) ((ps.drop 1++ps.take 1).getD i 0)]).map V.int) hacc ?_ ?_ fun σ' H' s4 hl'=>⟨acc,_,rfl, .inl (.of hl'),q H' (sm.trans s4)⟩
 ·rw [List.length_map]
  have:=cF (fun i=>[at2 T (ps.getD i 0) ((ps.drop 1++ps.take 1).getD i 0)]) 1 ps.length fun _ _=>Nat.le_refl _
  omega
 ·refine Emits.cast (L:=(List.range (ps.map bX).length).flatMap fun i=>[V.int (at2 T (ps.getD i 0) ((ps.drop 1++ps.take 1).getD i 0))]) ?_ (by rw [List.length_map];simp only [rC,List.map_cons,List.map_nil])
  refine aAA (ys:=(ps.drop 1++ps.take 1).map bX) (by decide) (by decide) (by decide) (by show 0<3;decide) (by show 1<3;decide) hln (fun H' sx=>⟨(cE hacc sx).tup (sm.tup hb),(cE hacc sx).tup hp3⟩) fun i x y σ1 H1' hx hy l1 ag1 e1 e2 sx1 _=>?_
  have hi:i<ps.length:=by rw [← List.length_map (f:=bX)];exact (List.getElem?_eq_some_iff.mp hx).1
  have ex:x = .int ((ps.getD i 0:Nat):Int):=by
   rw [List.getElem?_map,List.getElem?_eq_getElem hi] at hx
   rw [List.getD_eq_getElem?_getD,List.getElem?_eq_getElem hi]
   cases hx;rfl
  have ey:y = .int (((ps.drop 1++ps.take 1).getD i 0:Nat):Int):=by
   rw [List.getElem?_map,List.getElem?_eq_getElem (by rw [hfl];exact hi)] at hy
   rw [List.getD_eq_getElem?_getD,List.getElem?_eq_getElem (by rw [hfl];exact hi)]
   cases hy;rfl
  subst ex;subst ey
  have t2:σ1[2]?=some (some v):=(ag1 2 (by decide)).trans rfl
  refine iN fun Q hQ=>?_
  refine aAZ t2 e1 e2 (hS.same (sm.trans (cE hacc sx1))) hq ?_ ?_ (hQ H1' (Same.refl _))
  ·refine hlt _ ?_
   rw [List.getD_eq_getElem?_getD,List.getElem?_eq_getElem hi]
   exact List.getElem_mem hi
  ·have hm:(ps.drop 1++ps.take 1).getD i 0∈ps.drop 1++ps.take 1:=by
    rw [List.getD_eq_getElem?_getD,List.getElem?_eq_getElem (by rw [hfl];exact hi)]
    exact List.getElem_mem _
   rcases List.mem_append.mp hm with hm | hm
   ·exact hlt _ (List.mem_of_mem_drop hm)
   ·exact hlt _ (List.mem_of_mem_take hm)
end
end K60
namespace K60
open PySem L2
theorem gH:∀ ns:List Int,jZ (ns.map Dt.int)=0
 | []=>rfl
 | n :: ns=>by rw [List.map_cons,jZ,gH ns];rfl
section
variable {K:PySem.W.Frag}
theorem lH {H:Hp}{a b:Addr}{xs ys:List V}{Q:VK}(ha:SqT K H a xs)(hb:SqT K H b ys)(hx:xs≠[])(hy:ys≠[])(hz:xs.length+ys.length≤100)(q:∀ p,H p=none→Q (.ref p) (upd H p (.tup (xs++ys)))):bD K (.ref a) (.ref b) H Q:=by
 refine .inr ⟨a,b,xs,ys,rfl,rfl,ha,hb,Nat.le_trans hz (by decide),fun p H' w _ _=>?_⟩
 rcases w with ⟨_,_,e⟩ | ⟨_,_,e⟩ | ⟨hp,rfl⟩
 ·exact absurd e hy
 ·exact absurd e hx
 ·exact q p hp
theorem aCn {H:Hp}{a b:Addr}{xs ys:List V}{Q:VK}(ha:H a=some (.tup xs))(hb:SqT K H b ys)(hx:xs≠[])(hz:xs.length+ys.length≤100)(q:∀ p H',Same H H'→H' p=some (.tup (xs++ys))→Q (.ref p) H'):bD K (.ref a) (.ref b) H Q:=by
 refine .inr ⟨a,b,xs,ys,rfl,rfl, .of ha,hb,Nat.le_trans hz (by decide),fun p H' w _ s=>?_⟩
 rcases w with ⟨rfl,rfl,e⟩ | ⟨_,_,e⟩ | ⟨hp,rfl⟩
 ·exact q p _ s (by rw [e,List.append_nil];exact ha)
 ·exact absurd e hx
 ·exact q p _ s aD
theorem pR {H H':Hp}{a p:Addr}{xs ys:List V}(h:SqT K H a xs)(hp:H p=some (.lst ys))(sx:SameX p H H'):SqT K H' a xs:=by
 rcases h with (h | ⟨ob,h⟩) | h
 ·exact .inl (.inl (sx _ _ (ne_of h hp (fun z=>nomatch z)) h))
 ·exact .inl (.inr ⟨ob,sx _ _ (ne_of h hp (fun z=>nomatch z)) h⟩)
 ·exact .inr h
theorem aCV {H H':Hp}{v:V}{p:Addr}{T:List (List Int)}{ys:List V}(h:Sh K H (mG T) v)(hp:H p=some (.lst ys))(sx:SameX p H H'):Sh K H' (mG T) v:=by
 obtain ⟨a,rs,rfl,ha,hl,g⟩:=h.tab
 exact ⟨a,rs,rfl,pR ha hp sx,ShL.of_rows hl fun i row e=>by
  obtain ⟨b,e1,e2⟩:=g i row e
  exact ⟨b,e1,pR e2 hp sx⟩⟩
noncomputable def jF (K:PySem.W.Frag):Sp:=fun vs H Q _=>∃ (p l:Addr) (ms:List Int) (k:Nat) (z:Int) (n:Nat),vs=[.ref p, .int (n:Int)]∧PenAt H p l ms k z∧k≤90000∧1≤n∧n≤8∧∀ (os:List Nat) (b:Addr) (k':Nat) (z':Int) H',os.Perm (List.range n)→os.take 1=[0]→PenAt H' p l ms k' z'→k'≤k+8→SameX p H H'→H' b=some (.tup (os.map bX))→Q (.ref b) H'
theorem aFF (n:Nat)(h:1≤n):(oN 1 (n:Int)).map V.int=((List.range (n - 1)).map (· + 1)).map bX:=by
 unfold oN
 rw [List.map_map,List.map_map,show ((n:Int) - 1).toNat=n - 1 by omega]
 refine List.map_congr_left fun i _=>?_
 show V.int (1+(i:Int))=V.int ((i+1:Nat):Int)
 congr 1
 omega
theorem aCt:∀ vs H Q E,jF K vs H Q E→iI K eZ { nx:=fun _ H'=>Q .non H',rt:=Q } (bB ["pen","many","left","found"] vs) H:=by
 intro vs H Q E h
 obtain ⟨p,lp,ms,k0,z0,n,rfl,hP,hk0,h1,h8,q⟩:=h
 refine ⟨_,rfl, .inr ⟨_,_,rfl,fun pr hpr=>?_⟩⟩
 refine .inr ⟨pr,1,_,rfl,aD,⟨by omega,by omega,by omega,by omega,by omega⟩,fun l hl=>?_⟩
 rw [aFF n h1]
 have s1:Same H (upd (upd H pr (.rng 1 (n:Int))) l (.lst (((List.range (n - 1)).map (· + 1)).map bX))):=(aH hpr _).trans (aH hl _)
 have hlH:H l=none:=(aH hpr _).free hl
 have e1:(upd (upd H pr (.rng 1 (n:Int))) l (.lst (((List.range (n - 1)).map (· + 1)).map bX))) l=some (.lst (((List.range (n - 1)).map (· + 1)).map bX)):=aD
 generalize upd (upd H pr (.rng 1 (n:Int))) l (.lst (((List.range (n - 1)).map (· + 1)).map bX))=G at *
 obtain ⟨nlp,nll⟩:=hP.ne hlH
 refine ⟨show 1≤sizeLine by decide,fun f0 hf0=>?_⟩
 have sf:=aH hf0 (.tup [.int 0])
 refine ⟨fun m σ' H'=>∃ (f:Addr) (ls fs:List Nat) (k:Nat) (z:Int),σ'=[some (.ref p),some (.int (n:Int)),some (.ref l),some (.ref f)]∧PenAt H' p lp ms k z∧k+m≤k0+n∧H' l=some (.lst (ls.map bX))∧H' f=some (.tup (fs.map bX))∧SameX p H H'∧ls.length=m∧(fs++ls).Perm (List.range n)∧fs.take 1=[0],
  ⟨n - 1,f0,(List.range (n - 1)).map (· + 1),[0],k0,z0,rfl,hP.x (s1.trans sf),by omega,sf _ _ e1,aD,(s1.trans sf).x,by simp,?_,rfl⟩,?_⟩
 ·obtain ⟨j,rfl⟩:∃ j,n=j+1:=⟨n - 1,by omega⟩
  rw [List.range_succ_eq_map]
  exact List.Perm.refl _
 ·rintro m σ' H' ⟨f,ls,fs,k,z,rfl,hP',hk,el,hf,sx,rfl,pm,h0⟩
  refine ⟨_,rfl,show 0≤sizeLine by decide,fun pe hpe=>?_⟩
  have se:=aH hpe (.lst [])
  refine ⟨.lst ((ls.map fun x:Nat=>(x:Int)).map Dt.int), .lst [],by rw [dep];have:jZ ((ls.map fun x:Nat=>(x:Int)).map Dt.int)=0:=(gH _);omega,⟨l,_,rfl, .of (se _ _ el),by rw [oV];exact ShL.ints _⟩,⟨pe,[],rfl, .of aD,rfl⟩,_,rfl,?_⟩
  have hle:fs.length+ls.length=n:=by rw [← List.length_append,pm.length_eq,List.length_range]
  cases ls with
  | nil=>
   refine eM (by simp [eqD,eqL]) ?_
   rw [List.append_nil] at pm
   exact ⟨_,rfl,q fs f k z _ pm h0 (hP'.x se) (by omega) (sx.trans se.x) (se _ _ hf)⟩
  | cons a ls=>
   refine jP (by simp [eqD,eqL]) ?_
   have hPe:=hP'.x se
   have ele:=se _ _ el
   have hfe:=se _ _ hf
   have sxe:=sx.trans se.x
   generalize upd H' pe (.lst [])=G1 at *
   refine ⟨fun σ2 H2=>∃ (f:Addr) (ls2 fs2:List Nat) (k:Nat) (z:Int),σ2=[some (.ref p),some (.int (n:Int)),some (.ref l),some (.ref f)]∧PenAt H2 p lp ms k z∧k+ls.length≤k0+n∧H2 l=some (.lst (ls2.map bX))∧H2 f=some (.tup (fs2.map bX))∧SameX p H H2∧ls2.length=ls.length∧(fs2++ls2).Perm (List.range n)∧fs2.take 1=[0],fun σ2 H2 ⟨f,ls2,fs2,k,z,c1,c2,c3,c4,c5,c6,c7,c8,c9⟩=>⟨ls.length,by simp,f,ls2,fs2,k,z,c1,c2,c3,c4,c5,c6,c7,c8,c9⟩,?_⟩
   rw [List.length_cons] at hk hle
   refine ⟨_,rfl,_,rfl, .inl ⟨rfl,_, .of ele⟩,_,rfl,_,rfl,l,_,rfl, .inl (.of ele),p,lp,ms,k,z,ls.length+1,by rw [List.length_map,List.length_cons];rfl,hPe,by omega,by omega,by omega,fun r k2 z2 H2 hr hk2 hP2 sx2=>?_⟩
   have el2:H2 l=some (.lst ((a :: ls).map bX)):=sx2 _ _ nlp ele
   have hf2:H2 f=some (.tup (fs.map bX)):=sx2 _ _ (ne_of hfe hPe.1 (fun z=>nomatch z)) hfe
   have hr':r<(a :: ls).length:=by rw [List.length_cons];exact hr
   refine ⟨l,_,_,r,bX (a :: ls)[r],rfl,rfl,el2,by omega,by omega,by rw [List.length_map];exact aED hr',by rw [List.getElem?_map,List.getElem?_eq_getElem hr'];rfl,?_⟩
   rw [qK]
   refine ⟨show 1≤sizeLine by decide,fun p2 hp2=>?_⟩
   have st:=aH hp2 (.tup [bX (a :: ls)[r]])
   have hf3:SqT K _ f _:=st.tup (sN (o := .lst (((a :: ls).eraseIdx r).map bX)) (.of hf2) el2)
   refine lH hf3 (.of aD) (by cases fs with | nil=>cases h0 | cons b fs=>simp) (by simp) ?_ fun p3 hp3=>?_
   ·rw [List.length_map]
    show _+1≤100
    omega
   ·have s3:=aH hp3 (.tup (fs.map bX++[bX (a :: ls)[r]]))
    have st3:=st.trans s3
    have hP3:PenAt (upd H2 l (.lst (((a :: ls).eraseIdx r).map bX))) p lp ms k2 z2:=⟨by rw [aP (Ne.symm nlp)];exact hP2.1,by rw [aP (Ne.symm nll)];exact hP2.2.1,hP2.2.2⟩
    refine ⟨p3,(a :: ls).eraseIdx r,fs++[(a :: ls)[r]],k2,z2,rfl,hP3.x st3,by omega,st3 _ _ aD,by rw [List.map_append];exact aD,fun c o hc e=>?_,by rw [List.length_eraseIdx_of_lt hr'];rfl,(vL hr').trans pm,?_⟩
    ·have:=sx2 _ _ hc (sxe _ _ hc e)
     exact st3 _ _ (by rw [aP (aM e hlH)];exact this)
    ·cases fs with
     | nil=>cases h0
     | cons b fs=>exact h0
noncomputable def vE (K:PySem.W.Frag):Sp:=fun vs H Q _=>∃ (a:Addr) (ns:List Int),vs=[.ref a]∧SqL K H a (ns.map V.int)∧∀ p l ms H',Same H H'→PenAt H' p l ms 0 0→Q (.ref p) H'
theorem aDF:∀ vs H Q E,vE K vs H Q E→kP K { nx:=fun _ H'=>Q .non H',rt:=Q } (bB ["script"] vs) H:=by
 intro vs H Q E h
 obtain ⟨a,ns,rfl,hS,q⟩:=h
 refine ⟨_,rfl,_,rfl, .inl ⟨a,_,rfl,hS,fun sc hsc=>?_⟩⟩
 obtain ⟨ms,ems,_⟩:=zX ns none (some 63)
 rw [ems]
 refine .inl ⟨sc,_,rfl, .inl (.of aD),fun l hl=>⟨show 3≤sizeLine by decide,fun p hp=>?_⟩⟩
 have hlp:l≠p:=fun e=>by rw [← e,aD] at hp;cases hp
 refine q p l ms _ (((aH hsc _).trans (aH hl _)).trans (aH hp _)) ⟨aD,?_,hlp⟩
 rw [aP hlp]
 exact aD
end
end K60
namespace K60
open PySem L2
theorem aEv {n d a:Nat}(h:a≤n):HT.sIx n d (some (a:Int))=a:=by
 unfold HT.sIx
 simp
 rw [if_neg (by omega)]
 omega
theorem aFM (ps:List Nat)(a b:Nat)(h:a≤b)(hb:b≤ps.length):kA (ps.map bX) (some (a:Int)) (some (b:Int))=((ps.drop a).take (b - a)).map bX:=by
 unfold kA
 have e1:HT.sIx (ps.map bX).length 0 (some (a:Int))=a:=by rw [List.length_map];exact aEv (by omega)
 have e2:HT.sIx (ps.map bX).length (ps.map bX).length (some (b:Int))=b:=by rw [List.length_map];exact aEv (by omega)
 rw [e1,e2,List.map_take,List.map_drop]
theorem aEK (ps:List Nat)(a:Nat)(h:a≤ps.length):kA (ps.map bX) none (some (a:Int))=(ps.take a).map bX:=by
 unfold kA
 have e2:HT.sIx (ps.map bX).length (ps.map bX).length (some (a:Int))=a:=by rw [List.length_map];exact aEv (by omega)
 have e1:HT.sIx (ps.map bX).length 0 none=0:=rfl
 rw [e1,e2,List.map_take,List.drop_zero,Nat.sub_zero]
theorem aFc (ps:List Nat)(a:Nat)(h:a≤ps.length):kA (ps.map bX) (some (a:Int)) none=(ps.drop a).map bX:=by
 unfold kA
 have e1:HT.sIx (ps.map bX).length 0 (some (a:Int))=a:=by rw [List.length_map];exact aEv (by omega)
 have e2:HT.sIx (ps.map bX).length (ps.map bX).length none=ps.length:=by rw [List.length_map];rfl
 rw [e1,e2,List.map_drop]
 exact List.take_of_length_le (by rw [List.length_drop,List.length_map];exact Nat.le_refl _)
noncomputable def toI (R:List (List Nat)):List (List Int):=R.map fun r=>r.map fun p:Nat=>(p:Int)
noncomputable def RwH (_:PySem.W.Frag) (H:Hp) (xs:List V) (T:List (List Int)):Prop:=xs.length=T.length∧∀ (i:Nat) (row:List Int),T[i]?=some row→∃ b,xs[i]?=some (.ref b)∧H b=some (.tup (row.map V.int))
section
variable {K:PySem.W.Frag}{H H':Hp}{xs:List V}{T:List (List Int)}
theorem RwH.map (h:RwH K H xs T)(f:∀ b row,H b=some (.tup row)→H' b=some (.tup row)):RwH K H' xs T:=⟨h.1,fun i row e=>by
 obtain ⟨b,e1,e2⟩:=h.2 i row e
 exact ⟨b,e1,f _ _ e2⟩⟩
theorem RwH.same (h:RwH K H xs T)(e:Same H H'):RwH K H' xs T:=h.map fun _ _ s=>e _ _ s
theorem RwH.put (h:RwH K H xs T){l:Addr}{ys:List V}{o:HO}(hl:H l=some (.lst ys)):RwH K (upd H l o) xs T:=h.map fun _ _ s=>by rw [aP (ne_of s hl (fun z=>nomatch z))];exact s
theorem RwH.nil:RwH K H [] []:=⟨rfl,fun i row e=>by cases e⟩
theorem RwH.snoc (h:RwH K H xs T){b:Addr}{r:List Int}(hb:H b=some (.tup (r.map V.int))):RwH K H (xs++[.ref b]) (T++[r]):=by
 refine ⟨by rw [List.length_append,List.length_append,h.1];rfl,fun i row e=>?_⟩
 by_cases hi:i<T.length
 ·rw [List.getElem?_append_left hi] at e
  obtain ⟨b',e1,e2⟩:=h.2 i row e
  exact ⟨b',by rw [List.getElem?_append_left (by rw [h.1];exact hi)];exact e1,e2⟩
 ·rw [List.getElem?_append_right (by omega)] at e
  have:i - T.length=0:=by
   rcases hk:i - T.length with _ | k
   ·rfl
   ·rw [hk] at e;cases e
  rw [this] at e
  cases e
  exact ⟨b,by rw [List.getElem?_append_right (by rw [h.1];omega),h.1,this];rfl,hb⟩
end
noncomputable def EmH (K:PySem.W.Frag) (vars:List Nat) (tb:TS) (acc:Addr) (σ:St) (H:Hp) (L:List (List Int)):Prop:=
 ∀ (D:iE) (pre:List V) (R:List (List Int)),H acc=some (.lst pre)→RwH K H pre R→R.length+L.length≤100000→(∀ σ' H' pre',σ'.length=σ.length→Agree vars σ σ'→SameX acc H H'→H' acc=some (.lst pre')→RwH K H' pre' (R++L)→D.nx σ' H')→tb D σ H
section
variable {K:PySem.W.Frag}{vars:List Nat}{tb:TS}{acc:Addr}{σ:St}{H:Hp}
theorem sR {L:List (List Int)}(h:EmH K vars tb acc σ H L):EmH K vars (aS tb aO) acc σ H L:=fun D pre R ha hR hz hd=>h _ pre R ha hR hz hd
theorem aAT {lo:Int}{n j:Nat}{L:Nat→List (List Int)}(hj:j∈vars)(hjl:j<σ.length)
  (h:∀ i σ' H',i<n→σ'.length=σ.length→Agree vars σ σ'→σ'[j]?=some (some (.int (lo+(i:Int))))→SameX acc H H'→EmH K vars tb acc σ' H' (L i)) :
  EmH K vars (fK (Itr lo n) (aN j) tb) acc σ H ((List.range n).flatMap L):=by
 intro D pre R ha hR hz hd
 refine dY (lo:=lo) (n:=n) (g:=aN j) (D:=D) (fun i σ' H'=>i≤n∧σ'.length=σ.length∧Agree vars σ σ'∧SameX acc H H'∧∃ pre',H' acc=some (.lst pre')∧RwH K H' pre' (R++(List.range i).flatMap L)) ⟨Nat.zero_le _,rfl,Agree.refl _ _,SameX.refl _ _,pre,ha,by simpa using hR⟩ (fun i σ1 H1 hi ⟨_,hl1,ag1,sx1,pre1,h1,r1⟩=>?_) fun σ1 H1 ⟨_,hl1,ag1,sx1,pre1,h1,r1⟩=>hd σ1 H1 pre1 hl1 ag1 sx1 h1 r1
 have hle:=cD L (show i+1≤n from hi)
 rw [aL,List.length_append] at hle
 refine h i (σ1.set j (some (.int (lo+(i:Int))))) H1 hi (by rw [List.length_set];exact hl1) (ag1.trans (Agree.set hj _)) (kM (by omega)) sx1 _ pre1 _ h1 r1 (by rw [List.length_append];omega) fun σ' H' pre' hl ag sx h2 r2=>⟨hi,hl.trans ((List.length_set ..).trans hl1),(ag1.trans (Agree.set hj _)).trans ag,sx1.trans sx,pre',h2,by rw [aL,← List.append_assoc];exact r2⟩
theorem sH {ti:TI}{lo:Int}{n j:Nat}{L:Nat→List (List Int)}(hti:∀ R:It→Hp→Prop,R (Itr lo n) H→ti σ H R)(hj:j∈vars)(hjl:j<σ.length)
  (h:∀ i σ' H',i<n→σ'.length=σ.length→Agree vars σ σ'→σ'[j]?=some (some (.int (lo+(i:Int))))→SameX acc H H'→EmH K vars tb acc σ' H' (L i)) :
  EmH K vars (rQ ti (aN j) tb) acc σ H ((List.range n).flatMap L):=by
 intro D pre R ha hR hz hd
 exact hti _ (aAT hj hjl h D pre R ha hR hz hd)
end
section
variable {K:PySem.W.Frag}
noncomputable def aAM (K:PySem.W.Frag):Sp:=fun vs H Q _=>∃ (v:V) (b:Addr) (T:List (List Int)) (n:Nat) (ps:List Nat),vs=[v, .ref b]∧Sh K H (mG T) v∧Quad T n∧SqT K H b (ps.map bX)∧1≤ps.length∧ps.length≤8∧(∀ p∈ps,p<n)∧∀ H',Same H H'→Q (.int (gL T ps)) H'
theorem aDt:∀ vs H Q E,aAM K vs H Q E→kO K { nx:=fun _ H'=>Q .non H',rt:=Q } (bB ["table","told"] vs) H:=by
 intro vs H Q E h
 obtain ⟨v,b,T,n,ps,rfl,hS,hq,hb,h1,h8,hlt,q⟩:=h
 refine ⟨_,rfl,b,_,rfl, .inr hb,_,rfl,by rw [List.length_map];omega,by rw [List.length_map];omega,fun acc hacc=>?_⟩
 refine fE [0] (((List.range ps.length).map (stp T ps)).map V.int) hacc (by rw [List.length_map,List.length_map,List.length_range];omega) ?_ fun σ' H' s4 hl'=>⟨acc,_,rfl, .inl (.of hl'),q H' s4⟩
 rw [List.length_map]
 refine Emits.cast (L:=(List.range ps.length).flatMap fun i=>[V.int (stp T ps i)]) ?_ (by rw [jI,List.map_map];rfl)
 refine nN (by decide) (by show 0<3;decide) fun i σ1 H1 hi l1 ag1 e1 sx1 _=>?_
 have t1:σ1[1]?=some (some v):=(ag1 1 (by decide)).trans rfl
 have t2:σ1[2]?=some (some (.ref b)):=(ag1 2 (by decide)).trans rfl
 have hi:i<ps.length:=hi
 have hb1:=(cE hacc sx1).tup hb
 have hS1:=hS.same (cE hacc sx1)
 rw [Int.zero_add] at e1
 have fin:∀ (R:VK) (j:Nat),j<ps.length→R (.int (at2 T (ps.getD j 0) (ps.getD i 0))) H1→cQ K v (bX (ps.getD j 0)) H1 fun x H2=>(tOp (cQ K) (aF 2) (aF 0)) σ1 H2 fun y H3=>cQ K x y H3 R:=fun R j hj hR=>by
  refine rX hS1 hq (lQ hlt hj) fun c hc=>⟨_,t2,_,e1,ixT hb1 (aEF hi) ?_⟩
  refine ixT hc ?_ hR
  obtain ⟨row,g1,g2,g3⟩:=hq.get (lQ hlt hj)
  rw [List.getElem?_map,L2.jT (by rw [g3,g2];exact lQ hlt hi)]
  rfl
 refine iN fun R hR=>⟨_,t1,_,t2,_,e1,_,_,rfl,rfl,?_⟩
 cases i with
 | zero=>exact uN hb1 (by rw [List.length_map];exact aEF (by omega)) (fin R (ps.length - 1) (by omega) (hR H1 (Same.refl _)))
 | succ i=>
  show cQ K (.ref b) (.int (((i+1:Nat):Int) - 1)) H1 _
  rw [show ((i+1:Nat):Int) - 1=(i:Int) by omega]
  exact ixT hb1 (aEF (by omega)) (fin R i (by omega) (hR H1 (Same.refl _)))
end
end K60
namespace K60
open PySem L2
section
variable {K:PySem.W.Frag}{σ:St}{H:Hp}
noncomputable def Gv (K:PySem.W.Frag) (t:TE) (σ:St) (H:Hp) (xs:List Nat):Prop:=∀ H1,Same H H1→∀ Q:VK,(∀ p H2,Same H1 H2→SqT K H2 p (xs.map bX)→Q (.ref p) H2)→t σ H1 Q
theorem fZ {i:Nat}{a:Addr}{ps:List Nat}(hv:σ[i]?=some (some (.ref a)))(h:SqT K H a (ps.map bX)):Gv K (aF i) σ H ps:=fun H1 s1 Q q=>⟨_,hv,q a H1 (Same.refl _) (s1.tup h)⟩
theorem aBg {t:TE}{ps:List Nat}(h:Gv K t σ H ps):Gv K (aCQ K t) σ H ps.reverse:=fun H1 s1 Q q=>h H1 s1 _ fun p H2 s2 hp=>⟨p,_,rfl,hp,fun z hz=>q z _ (s2.trans (aH hz _)) (.of (by rw [List.map_reverse];exact aD))⟩
theorem aAy {t:TE}{i k:Nat}{ps:List Nat}(h:Gv K t σ H ps)(hk:σ[i]?=some (some (.int (k:Int))))(hl:k≤ps.length):Gv K (tSl (mZ K) t bR (dU (aF i))) σ H (ps.take k):=fun H1 s1 Q q=>h H1 s1 _ fun p H2 s2 hp=>⟨_,hk,_,rfl, .inr ⟨p,_,rfl,hp,fun z H3 s3 hz=>q z H3 (s2.trans s3) (by rw [aEK _ _ hl] at hz;exact hz)⟩⟩
theorem oU {t:TE}{i k:Nat}{ps:List Nat}(h:Gv K t σ H ps)(hk:σ[i]?=some (some (.int (k:Int))))(hl:k≤ps.length):Gv K (tSl (mZ K) t (dU (aF i)) bR) σ H (ps.drop k):=fun H1 s1 Q q=>h H1 s1 _ fun p H2 s2 hp=>⟨_,hk,_,rfl, .inr ⟨p,_,rfl,hp,fun z H3 s3 hz=>q z H3 (s2.trans s3) (by rw [aFc _ _ hl] at hz;exact hz)⟩⟩
theorem aDa {ta tb:TE}{xs ys:List Nat}(ha:Gv K ta σ H xs)(hb:Gv K tb σ H ys)(hz:xs.length+ys.length≤100):Gv K (tOp (bD K) ta tb) σ H (xs++ys):=fun H1 s1 Q q=>ha H1 s1 _ fun p H2 s2 hp=>hb H2 (s1.trans s2) _ fun r H3 s3 hr => .inr ⟨p,r,_,_,rfl,rfl,s3.tup hp,hr,by rw [List.length_map,List.length_map];exact Nat.le_trans hz (by decide),fun z H4 _ hz' s4=>q z H4 ((s2.trans s3).trans s4) (by rw [List.map_append];exact hz')⟩
theorem sL {ta tb tc:TE}{xs ys zs:List Nat}{Q:VK}(ha:Gv K ta σ H xs)(hb:Gv K tb σ H ys)(hc:Gv K tc σ H zs)(hx:xs≠[])(hy:ys≠[])(hz:xs.length+ys.length+zs.length≤100)(q:∀ p H',Same H H'→H' p=some (.tup ((xs++ys++zs).map bX))→Q (.ref p) H'):tOp (bD K) (tOp (bD K) ta tb) tc σ H Q:=
 ha H (Same.refl _) _ fun p H2 s2 hp=>hb H2 s2 _ fun r H3 s3 hr=>lH (s3.tup hp) hr (fun e=>hx (List.map_eq_nil_iff.mp e)) (fun e=>hy (List.map_eq_nil_iff.mp e)) (by rw [List.length_map,List.length_map];omega) fun u hu=>by
  have su:=aH hu (.tup (xs.map bX++ys.map bX))
  refine hc _ ((s2.trans s3).trans su) _ fun w H4 s4 hw=>aCn (s4 _ _ aD) hw ?_ ?_ fun z H5 s5 hz'=>q z H5 ((((s2.trans s3).trans su).trans s4).trans s5) ?_
  ·intro e
   exact hx (List.map_eq_nil_iff.mp (List.append_eq_nil_iff.mp e).1)
  ·rw [List.length_append,List.length_map,List.length_map,List.length_map];omega
  ·rw [List.map_append,List.map_append];exact hz'
theorem Gv.at {t:TE}{H':Hp}{xs:List Nat}(h:Gv K t σ H xs)(s:Same H H'):Gv K t σ H' xs:=fun H1 s1 Q q=>h H1 (s.trans s1) Q q
theorem hU {R:List (List Nat)}:(toI R).length=R.length:=by unfold toI;rw [List.length_map]
theorem wM {R S:List (List Nat)}:toI (R++S)=toI R++toI S:=by unfold toI;rw [List.map_append]
theorem pI {n:Nat}{f:Nat→List (List Nat)}:toI ((List.range n).flatMap f)=(List.range n).flatMap fun i=>toI (f i):=by unfold toI;rw [List.map_flatMap]
theorem aAY (r:List Nat):(r.map fun p:Nat=>(p:Int)).map V.int=r.map bX:=(oV r).symm
theorem aBd {vars:List Nat}{acc:Addr}{t:Nat}{te:TE}{r:List Nat}(hs:σ[t]?=some (some (.ref acc)))(h:∀ H1,Same H H1→∀ Q:VK,(∀ p H2,Same H1 H2→H2 p=some (.tup (r.map bX))→Q (.ref p) H2)→te σ H1 Q):EmH K vars (oX (tBM K "list" hV (aF t) (aB te aQ))) acc σ H (toI [r]):=by
 intro D pre R ha hR hz hd
 refine ⟨_,hs, .inl ⟨rfl,_, .of ha⟩,h H (Same.refl _) _ fun u H2 s2 hu=>?_⟩
 have ha':=s2 _ _ ha
 refine ⟨acc,pre, .ref u,rfl,rfl,ha',Nat.lt_of_le_of_lt (show pre.length≤100000 by rw [hR.1];omega) (by decide),?_⟩
 exact hd σ _ _ rfl (Agree.refl _ _) (s2.x.trans (SameX.put _)) aD (RwH.snoc (RwH.put (hR.same s2) ha') (by rw [aAY,aP (ne_of hu ha' (fun z=>nomatch z))];exact hu))
theorem aCq {vars:List Nat}{acc:Addr}{tb tc:TS}{L M:List (List Int)}(h:EmH K [] tb acc σ H L)(g:∀ σ' H',σ'.length=σ.length→Agree [] σ σ'→SameX acc H H'→EmH K vars tc acc σ' H' M):EmH K vars (aS tb tc) acc σ H (L++M):=by
 intro D pre R ha hR hz hd
 rw [List.length_append] at hz
 refine h _ pre R ha hR (by omega) fun σ1 H1 pre1 l1 ag1 sx1 h1 r1=>?_
 exact g σ1 H1 l1 ag1 sx1 D pre1 _ h1 r1 (by rw [List.length_append];omega) fun σ2 H2 pre2 l2 ag2 sx2 h2 r2=>hd σ2 H2 pre2 (l2.trans l1) ((fun k hk=>ag1 k (by simp)) |> fun z=>Agree.trans z ag2) (sx1.trans sx2) h2 (by rw [← List.append_assoc];exact r2)
noncomputable def xQ (K:PySem.W.Frag):Sp:=fun vs H Q _=>∃ (a:Addr) (ps:List Nat) (b s:Nat),vs=[.ref a, .int (b:Int), .int ((b+s:Nat):Int)]∧SqT K H a (ps.map bX)∧1≤b∧1≤s∧b+s≤ps.length∧ps.length≤8∧∀ l xs H',Same H H'→H l=none→H' l=some (.lst xs)→RwH K H' xs (toI (mvS ps b s))→Q (.ref l) H'
theorem xW {ps:List Nat}{i:Nat}(h1:1≤i)(h2:i≤ps.length):ps.take i≠[]:=fun e=>by
 have:=congrArg List.length e
 rw [List.length_take,List.length_nil] at this
 omega
theorem aDW:∀ vs H Q E,xQ K vs H Q E→eE K { nx:=fun _ H'=>Q .non H',rt:=Q } (bB ["round_","start","stop","stretch","found","rest","at"] vs) H:=by
 intro vs H Q E h
 obtain ⟨a,ps,b,s,rfl,ha,b1,s1,hl,h8,q⟩:=h
 have pl:=aDL hl
 have pn:pc ps b s≠[]:=fun e=>by rw [e] at pl;simp at pl;omega
 refine ⟨_,rfl,_,rfl,_,rfl,_,rfl,_,rfl, .inr ⟨a,_,rfl,ha,fun p1 H1 m1 hp1=>?_⟩⟩
 rw [aFM ps b (b+s) (by omega) hl,show b+s - b=s by omega] at hp1
 have hp1:SqT K H1 p1 ((pc ps b s).map bX):=hp1
 have ha1:=m1.tup ha
 refine sL (aAy (fZ rfl ha1) rfl (by omega)) (aBg (fZ rfl hp1)) (oU (fZ rfl ha1) rfl hl) (xW b1 (by omega)) (by simpa using pn) (by rw [List.length_take,List.length_reverse,pl,List.length_drop];omega) fun p2 H2 m2 hp2=>?_
 refine ⟨show 1≤sizeLine by decide,fun F hF=>?_⟩
 have mF:=aH hF (.lst [.ref p2])
 have hF1:(upd H2 F (.lst [.ref p2])) F=some (.lst [.ref p2]):=aD
 have hR:RwH K (upd H2 F (.lst [.ref p2])) [.ref p2] (toI [ps.take b++(pc ps b s).reverse++ps.drop (b+s)]):=RwH.snoc (xs:=[]) (T:=[]) RwH.nil (by rw [aAY];exact mF _ _ hp2)
 have mm:=(m1.trans m2).trans mF
 have hFH:H F=none:=(m1.trans m2).free hF
 have ha2:=mm.tup ha
 have hp2':=(m2.trans mF).tup hp1
 generalize upd H2 F (.lst [.ref p2])=G at *
 refine ⟨_,rfl,p1,_,rfl, .inr hp2',_,_,rfl,rfl,_,rfl,?_⟩
 rw [List.length_map,pl]
 by_cases c:s≤3
 ·refine jP (decide_eq_true (by omega)) ?_
  refine aDa (aAy (fZ rfl ha2) rfl (by omega)) (oU (fZ rfl ha2) rfl hl) (by rw [List.length_take,List.length_drop];omega) G (Same.refl _) _ fun p3 H3 m3 hp3=>?_
  have hp3:SqT K H3 p3 ((rs ps b s).map bX):=hp3
  have rl:=rM hl
  have hF3:=m3 _ _ hF1
  have key:EmH K [6] (rQ (rP (aB (tC (.int 1)) (aB (tOp (bD K) (tCB (oY K) (aB (aF 5) aQ)) (tC (.int 1))) aQ))) (aN 6) (aS (oX (tBM K "list" hV (aF 4) (aB (tOp (bD K) (tOp (bD K) (tSl (mZ K) (aF 5) bR (dU (aF 6))) (aF 3)) (tSl (mZ K) (aF 5) (dU (aF 6)) bR)) aQ))) (aS (oX (tBM K "list" hV (aF 4) (aB (tOp (bD K) (tOp (bD K) (tSl (mZ K) (aF 5) bR (dU (aF 6))) (aCQ K (aF 3))) (tSl (mZ K) (aF 5) (dU (aF 6)) bR)) aQ))) aO))) F
    [some (.ref a),some (.int (b:Int)),some (.int ((b+s:Nat):Int)),some (.ref p1),some (.ref F),some (.ref p3),none] H3 ((List.range (rs ps b s).length).flatMap fun i=>toI [mX (rs ps b s) (pc ps b s) (i+1),mX (rs ps b s) (pc ps b s).reverse (i+1)]):=by
   refine sH (lo:=1) (fun R hR=>⟨_,rfl,p3,_,rfl, .inr hp3,_,_,rfl,⟨by decide,by decide,by rw [List.length_map,rl];omega,by rw [List.length_map,rl];omega⟩,?_⟩) (by decide) (by show 6<7;decide) fun i σ4 H4 hi l4 ag4 e6 sx4=>?_
   ·rw [List.length_map,show (((rs ps b s).length:Int)+1 - 1).toNat=(rs ps b s).length by omega];exact hR
   have e3:σ4[3]?=some (some (.ref p1)):=(ag4 3 (by decide)).trans rfl
   have e4:σ4[4]?=some (some (.ref F)):=(ag4 4 (by decide)).trans rfl
   have e5:σ4[5]?=some (some (.ref p3)):=(ag4 5 (by decide)).trans rfl
   rw [show (1:Int)+(i:Int)=((i+1:Nat):Int) by omega] at e6
   have k3:=pR hp3 hF3 sx4
   have k1:=pR (m3.tup hp2') hF3 sx4
   have kz:((rs ps b s).take (i+1)).length+(pc ps b s).length+((rs ps b s).drop (i+1)).length≤100:=by rw [List.length_take,List.length_drop,pl,rl];omega
   refine aCq (L:=toI [mX (rs ps b s) (pc ps b s) (i+1)]) (M:=toI [mX (rs ps b s) (pc ps b s).reverse (i+1)]) (aBd e4 fun H5 s5 R hR=>sL ((aAy (fZ e5 k3) e6 (by omega)).at s5) ((fZ e3 k1).at s5) ((oU (fZ e5 k3) e6 (by omega)).at s5) (xW (by omega) (by omega)) pn kz hR) fun σ5 H5 l5 ag5 sx5=>sR ?_
   have sx6:=sx4.trans sx5
   have k3':=pR hp3 hF3 sx6
   have k1':=pR (m3.tup hp2') hF3 sx6
   have e3':=(ag5 3 (by simp)).trans e3
   have e4':=(ag5 4 (by simp)).trans e4
   have e5':=(ag5 5 (by simp)).trans e5
   have e6':=(ag5 6 (by simp)).trans e6
   exact aBd e4' fun H6 s6 R hR=>sL ((aAy (fZ e5' k3') e6' (by omega)).at s6) ((aBg (fZ e3' k1')).at s6) ((oU (fZ e5' k3') e6' (by omega)).at s6) (xW (by omega) (by omega)) (by simpa using pn) (by rw [List.length_reverse];exact kz) hR
  refine key _ _ _ hF3 (hR.same m3) ?_ fun σ4 H4 pre4 l4 ag4 sx4 h4 r4=>?_
  ·have:=cF (fun i=>toI [mX (rs ps b s) (pc ps b s) (i+1),mX (rs ps b s) (pc ps b s).reverse (i+1)]) 2 (rs ps b s).length fun i _=>Nat.le_refl _
   rw [hU,List.length_singleton]
   omega
  ·refine ⟨_,(ag4 4 (by decide)).trans rfl,q F _ H4 (fun c o e=>sx4 _ _ (aM e hFH) (m3 _ _ (mm _ _ e))) hFH h4 ?_⟩
   have e:mvS ps b s=[ps.take b++(pc ps b s).reverse++ps.drop (b+s)]++(List.range (rs ps b s).length).flatMap (fun i=>[mX (rs ps b s) (pc ps b s) (i+1),mX (rs ps b s) (pc ps b s).reverse (i+1)]):=by unfold mvS;rw [if_pos c]
   rw [e,wM,pI]
   exact r4
 ·refine eM (decide_eq_false (by omega)) ?_
  refine ⟨_,rfl,q F _ G mm hFH hF1 ?_⟩
  have e:mvS ps b s=[ps.take b++(pc ps b s).reverse++ps.drop (b+s)]:=by unfold mvS;rw [if_neg c,List.append_nil]
  rw [e]
  exact hR
end
end K60
namespace K60
open PySem L2
noncomputable def tupN (ps:List Nat):Dt := .tup ((ps.map fun p:Nat=>(p:Int)).map Dt.int)
theorem oQ:∀ {a b:List Nat},(a.map fun p:Nat=>(p:Int))=(b.map fun p:Nat=>(p:Int))→a=b
 | [],[],_=>rfl
 | [],_ :: _,h=>by cases h
 | _ :: _,[],h=>by cases h
 | x :: a,y :: b,h=>by
  rw [List.map_cons,List.map_cons,List.cons.injEq] at h
  rw [Int.ofNat.inj h.1,oQ h.2]
theorem dL:∀ (r q:List Int),eqL (r.map Dt.int) (q.map Dt.int)=decide (r=q)
 | [],[]=>by simp [eqL]
 | [],_ :: _=>by simp [eqL]
 | _ :: _,[]=>by simp [eqL]
 | x :: r,y :: q=>by
  rw [List.map_cons,List.map_cons,eqL,dL r q,eqD]
  by_cases c:x=y <;> by_cases d:r=q <;> simp [c,d]
theorem aCI (a b:List Nat):eqD (tupN a) (tupN b)=decide (a=b):=by
 unfold tupN
 rw [eqD,dL]
 by_cases c:a=b
 ·rw [c];simp
 ·rw [decide_eq_false c,decide_eq_false fun e=>c (oQ e)]
theorem aAI (a:List Nat):dep (tupN a)≤100:=by
 unfold tupN
 rw [dep,gH]
 decide
section
variable {K:PySem.W.Frag}
theorem pL {H:Hp}{a:Addr}{ps:List Nat}(h:SqT K H a (ps.map bX)):Sh K H (tupN ps) (.ref a):=⟨a,_,rfl,h,by rw [oV];exact ShL.ints _⟩
theorem aEQ {H:Hp}{xs:List V}{L:List (List Nat)}(h:RwH K H xs (toI L)){i:Nat}{x:V}(hx:xs[i]?=some x):∃ e b,L[i]?=some e∧x = .ref b∧H b=some (.tup (e.map bX)):=by
 have hi:i<xs.length:=(List.getElem?_eq_some_iff.mp hx).1
 have hl:i<L.length:=by rw [h.1,hU] at hi;exact hi
 obtain ⟨b,e1,e2⟩:=h.2 i (L[i].map fun p:Nat=>(p:Int)) (by unfold toI;rw [List.getElem?_map,List.getElem?_eq_getElem hl];rfl)
 rw [hx] at e1
 exact ⟨L[i],b,List.getElem?_eq_getElem hl,Option.some.inj e1,by rw [aAY] at e2;exact e2⟩
section
variable {H:Hp}{A t:Addr}{xs:List V}{L:List (List Nat)}{f:List Nat→Bool}{tc:TT}{σ:St}{D:iE}
noncomputable def aDX (K:PySem.W.Frag) (H:Hp) (σ:St) (L:List (List Nat)) (f:List Nat→Bool) (tc:TT):Prop:=∀ e∈L,∀ b σ2 H2,σ2[0]?=some (some (.ref b))→Agree [0] σ σ2→Same H H2→SqT K H2 b (e.map bX)→∀ R:Bool→Hp→Prop,(∀ H',Same H2 H'→R (f e) H')→tc σ2 H2 R
theorem zO (hz:L.length≤10000){i:Nat}{x:V}{σ1:St}{H1:Hp}{ys:List V}{D1:iE}(hA:H A=none)(hr:RwH K H xs (toI L))(ht:aDX K H σ L f tc)(hx:xs[i]?=some x)(ag:Agree [0] σ σ1)(s0:σ1[0]?=some (some x))(sm:Same H H1)(ha:H1 A=some (.lst ys))(hL:RwH K H1 ys (toI ((L.take i).filter f)))(l1:σ1.length=σ.length)
  (hD:∀ σ2 H2 zs,σ2.length=σ.length→Agree [0] σ σ2→Same H H2→H2 A=some (.lst zs)→RwH K H2 zs (toI ((L.take (i+1)).filter f))→D1.nx σ2 H2):kR [tc] (dO (aF 0) A) D1 σ1 H1:=by
 obtain ⟨e,b,he,rfl,hb⟩:=aEQ (hr.same sm) hx
 have tk:(L.take (i+1)).filter f=(L.take i).filter f++(if f e=true then [e] else []):=by
  rw [List.take_add_one,he,List.filter_append]
  congr 1
  show List.filter f [e]=_
  by_cases c:f e=true
  ·rw [if_pos c,List.filter_cons_of_pos c];rfl
  ·rw [if_neg c,List.filter_cons_of_neg c];rfl
 refine ht e (List.mem_of_getElem? he) b σ1 H1 s0 ag sm (.of hb) _ fun H2 s2=>?_
 have ha2:=s2 _ _ ha
 by_cases c:f e=true
 ·refine jP c ⟨_,s0,ys,ha2,?_,hD σ1 _ (ys++[.ref b]) l1 ag (tG hA (sm.trans s2)) aD ?_⟩
  ·rw [hL.1,hU]
   exact Nat.lt_of_le_of_lt (show _≤10000 from Nat.le_trans (List.length_filter_le ..) (by rw [List.length_take];omega)) (by decide)
  ·rw [tk,if_pos c,wM]
   exact RwH.put (RwH.snoc (hL.same s2) (by rw [aAY];exact s2 _ _ hb)) ha2
 ·refine eM (by simpa using c) (hD σ1 H2 ys l1 ag (sm.trans s2) ha2 ?_)
  rw [tk,if_neg c,List.append_nil]
  exact hL.same s2
theorem tY (hA:H A=none)(ht:H t=some (.lst xs))(hr:RwH K H xs (toI L))(hz:L.length≤10000)(h0:0<σ.length)(hc:aDX K H σ L f tc)(q:∀ σ' H' ys,Same H H'→H' A=some (.lst ys)→RwH K H' ys (toI (L.filter f))→D.nx σ' H'):fK (Itl K t) (aN 0) (kR [tc] (dO (aF 0) A)) D σ (upd H A (.lst [])):=by
 have hl:xs.length=L.length:=by rw [hr.1,hU]
 refine pX (K:=K) (a:=t) (vars:=[0]) (xs:=xs) (fun i ys H'=>RwH K H' ys (toI ((L.take i).filter f))) (by decide) h0 RwH.nil hA (fun i ys H' sm _ => .of (sm _ _ ht)) (fun i x σ1 H1 ys D1 hx l1 ag s0 sm ha hL hD=>zO hz hA hr hc hx ag s0 sm ha hL l1 hD) fun σ1 H1 ys sm ha hL=>q σ1 H1 ys sm ha (by rw [hl,List.take_length] at hL;exact hL)
end
theorem EmH.mono {vars vars':List Nat}{tb:TS}{acc:Addr}{σ:St}{H:Hp}{L:List (List Int)}(h:EmH K vars tb acc σ H L)(hs:∀ k∈vars,k∈vars'):EmH K vars' tb acc σ H L:=
 fun D pre R ha hR hz hd=>h D pre R ha hR hz fun σ' H' pre' hl ag sx h2 r2=>hd σ' H' pre' hl (fun k hk=>ag k fun z=>hk (hs k z)) sx h2 r2
theorem aCJ {ps:List Nat}{b s:Nat}(h:b+s≤ps.length)(h8:ps.length≤8):(mvS ps b s).length≤17:=by
 unfold mvS
 rw [List.length_append,List.length_singleton]
 split
 ·have:=cF (fun i=>[mX (rs ps b s) (pc ps b s) (i+1),mX (rs ps b s) (pc ps b s).reverse (i+1)]) 2 (rs ps b s).length fun i _=>Nat.le_refl _
  rw [rM h] at this
  rw [rM h]
  omega
 ·decide
theorem xV {ps:List Nat}(h8:ps.length≤8):(mvA ps).length≤1000:=by
 unfold mvA
 have:=cF (fun i=>(List.range (i+1)).flatMap fun j=>mvS ps (j+1) (i+1 - j)) (8*17) (ps.length - 1) fun i hi=>by
  refine Nat.le_trans (cF (fun j=>mvS ps (j+1) (i+1 - j)) 17 (i+1) fun j hj=>aCJ (by omega) h8) (Nat.mul_le_mul_right _ (by omega))
 have:(ps.length - 1)*(8*17)≤7*(8*17):=Nat.mul_le_mul_right _ (by omega)
 omega
noncomputable def mJ (K:PySem.W.Frag):Sp:=fun vs H Q _=>∃ (a:Addr) (ps:List Nat),vs=[.ref a]∧SqT K H a (ps.map bX)∧1≤ps.length∧ps.length≤8∧∀ l xs H',Same H H'→H' l=some (.lst xs)→RwH K H' xs (toI ((mvA ps).filter fun o=>decide (o≠ps)))→Q (.ref l) H'
theorem aAF:∀ vs H Q E,mJ K vs H Q E→oK K (xQ K) { nx:=fun _ H'=>Q .non H',rt:=Q } (bB ["round_","found","stop","start"] vs) H:=by
 intro vs H Q E h
 obtain ⟨a,ps,rfl,ha,h1,h8,q⟩:=h
 refine ⟨show 0≤sizeLine by decide,fun F hF=>?_⟩
 have mF:=aH hF (.lst [])
 have hF1:(upd H F (.lst [])) F=some (.lst []):=aD
 generalize upd H F (.lst [])=G at *
 have key:EmH K [2,3] (rQ (rP (aB (tC (.int 2)) (aB (tOp (bD K) (tCB (oY K) (aB (aF 0) aQ)) (tC (.int 1))) aQ))) (aN 2) (aS (rQ (rP (aB (tC (.int 1)) (aB (aF 2) aQ))) (aN 3) (aS (oX (tBM K "list" (pS K) (aF 1) (aB (aW (xQ K) [] E0 (aB (aF 0) (aB (aF 3) (aB (aF 2) aQ)))) aQ))) aO)) aO)) F
   [some (.ref a),some (.ref F),none,none] G ((List.range (ps.length - 1)).flatMap fun i=>(List.range (i+1)).flatMap fun j=>toI (mvS ps (j+1) (i+1 - j))):=by
  refine sH (lo:=2) (fun R hR=>⟨_,rfl,a,_,rfl, .inr (mF.tup ha),_,_,rfl,⟨by decide,by decide,by rw [List.length_map];omega,by rw [List.length_map];omega⟩,?_⟩) (by decide) (by show 2<4;decide) fun i σ1 H1 hi l1 ag1 e2 sx1=>sR ?_
  ·rw [List.length_map,show ((ps.length:Int)+1 - 2).toNat=ps.length - 1 by omega];exact hR
  refine EmH.mono (vars:=[3]) (sH (lo:=1) (fun R hR=>⟨_,e2,_,_,rfl,⟨by decide,by decide,by omega,by omega⟩,?_⟩) (by decide) (by rw [l1];show 3<4;decide) fun j σ2 H2 hj l2 ag2 e3 sx2=>sR ?_) (by decide)
  ·rw [show ((2:Int)+(i:Int) - 1).toNat=i+1 by omega];exact hR
  intro D pre R hp hR hz hd
  have c0:σ2[0]?=some (some (.ref a)):=(ag2 0 (by decide)).trans ((ag1 0 (by decide)).trans rfl)
  have c1:σ2[1]?=some (some (.ref F)):=(ag2 1 (by decide)).trans ((ag1 1 (by decide)).trans rfl)
  have c2:=(ag2 2 (by decide)).trans e2
  have sx:=sx1.trans sx2
  have ha2:=pR (mF.tup ha) hF1 sx
  refine ⟨_,c1, .inl ⟨rfl,_, .of hp⟩,_,c0,_,e3,_,c2,a,ps,j+1,i+1 - j,?_,ha2,by omega,by omega,by omega,h8,fun l xs H3 m3 hlH hl3 r3=>?_⟩
  ·show [V.ref a,V.int (1+(j:Int)),V.int (2+(i:Int))]=_
   rw [show (1:Int)+(j:Int)=((j+1:Nat):Int) by omega,show (2:Int)+(i:Int)=((j+1+(i+1 - j):Nat):Int) by omega]
  have hp3:=m3 _ _ hp
  refine .inl ⟨F,l,pre,xs,rfl,rfl,hp3,hl3,?_,?_⟩
  ·rw [r3.1,hR.1]
   exact Nat.le_trans hz (by decide)
  ·refine hd σ2 _ _ rfl (Agree.refl _ _) (m3.x.trans (SameX.put _)) aD ?_
   refine RwH.put (o := .lst (pre++xs)) ⟨?_,fun k row e=>?_⟩ hp3
   ·rw [List.length_append,List.length_append,hR.1,r3.1]
   ·by_cases hk:k<R.length
    ·rw [List.getElem?_append_left hk] at e
     obtain ⟨b',u1,u2⟩:=(hR.same m3).2 k row e
     exact ⟨b',by rw [List.getElem?_append_left (by rw [hR.1];exact hk)];exact u1,u2⟩
    ·rw [List.getElem?_append_right (by omega)] at e
     obtain ⟨b',u1,u2⟩:=r3.2 _ row e
     exact ⟨b',by rw [List.getElem?_append_right (by rw [hR.1];omega),hR.1];exact u1,u2⟩
 have eA:((List.range (ps.length - 1)).flatMap fun i=>(List.range (i+1)).flatMap fun j=>toI (mvS ps (j+1) (i+1 - j)))=toI (mvA ps):=by
  unfold mvA
  rw [pI]
  congr 1
  funext i
  rw [pI]
 have lA:=xV h8
 refine key _ [] [] hF1 RwH.nil (by rw [eA,hU,List.length_nil];omega) fun σ1 H1 pre l1 ag1 sx1 hp1 r1=>?_
 rw [eA,List.nil_append] at r1
 have c0:σ1[0]?=some (some (.ref a)):=(ag1 0 (by decide)).trans rfl
 have c1:σ1[1]?=some (some (.ref F)):=(ag1 1 (by decide)).trans rfl
 have m1:Same H H1:=fun c o e=>sx1 _ _ (aM e hF) (mF _ _ e)
 refine ⟨_,c1,F,rfl, .inl ⟨⟨_, .of hp1⟩,fun A hA=>?_⟩⟩
 refine tY (f:=fun o=>decide (o≠ps)) hA hp1 r1 (by omega) (by show 0<2;decide) (fun e he b σ2 H2 s0 ag2 m2 hb R hR=>?_) fun σ2 H2 ys m2 h2 r2=>q A ys H2 (m1.trans m2) h2 r2
 refine ⟨_,s0,_,(ag2 1 (by decide)).trans (by show [none,σ1[0]?.join][1]?=_;rw [c0];rfl),tupN e,tupN ps,aAI _,pL hb,pL ((m1.trans m2).tup ha),_,rfl,?_⟩
 rw [aCI]
 have e1:(!decide (e=ps))=(fun o:List Nat=>decide (o≠ps)) e:=by simp
 rw [e1]
 exact hR H2 (Same.refl _)
noncomputable def spShort (K:PySem.W.Frag):Sp:=fun vs H Q _=>∃ (v:V) (b:Addr) (T:List (List Int)) (n:Nat) (ps:List Nat),vs=[v, .ref b]∧Sh K H (mG T) v∧Quad T n∧SqT K H b (ps.map bX)∧ps.length=n∧1≤n∧n≤8∧(∀ p∈ps,p<n)∧∀ l xs H',Same H H'→H' l=some (.lst xs)→RwH K H' xs (toI (((mvA ps).filter fun o=>decide (o≠ps)).filter fun o=>decide (vV T o<vV T ps)))→Q (.ref l) H'
theorem rd_short:∀ vs H Q E,spShort K vs H Q E→gB K (aCL K) (mJ K) { nx:=fun _ H'=>Q .non H',rt:=Q } (bB ["table","round_","own"] vs) H:=by
 intro vs H Q E h
 obtain ⟨v,b,T,n,ps,rfl,hS,hq,hb,hl,h1,h8,hlt,q⟩:=h
 refine ⟨_,rfl,_,rfl,v,b,T,n,ps,rfl,hS,hq,by omega,hb,hl,h1,hlt,fun H1 m1=>?_⟩
 refine ⟨_,rfl,b,ps,rfl,m1.tup hb,by omega,by omega,fun F xs H2 m2 hF r2=>?_⟩
 refine ⟨F,rfl, .inl ⟨⟨_, .of hF⟩,fun A hA=>?_⟩⟩
 have lA:=xV (ps:=ps) (by omega)
 refine tY (f:=fun o=>decide (vV T o<vV T ps)) hA hF r2 (Nat.le_trans (List.length_filter_le ..) (by omega)) (by show 0<3;decide) (fun e he c σ3 H3 s0 ag3 m3 hc R hR=>?_) fun σ3 H3 ys m3 h3 r3=>q A ys H3 ((m1.trans m2).trans m3) h3 r3
 have pe:=lM (pE (List.mem_filter.mp he).1)
 refine ⟨_,(ag3 1 (by decide)).trans rfl,_,s0,v,c,T,n,e,rfl,hS.same ((m1.trans m2).trans m3),hq,by omega,hc,by rw [pe.length_eq];exact hl,h1,fun p hp=>hlt p (pe.mem_iff.mp hp),fun H4 m4=>?_⟩
 exact ⟨_,(ag3 2 (by decide)).trans rfl,_,_,rfl,rfl,_,rfl,hR H4 m4⟩
end
end K60
namespace K60
open PySem L2
noncomputable def aEW (ps o:List Nat):Prop:=uC ps o∧o≠ps
theorem aBl {ps o:List Nat}:o∈(mvA ps).filter (fun x=>decide (x≠ps))↔aEW ps o:=by
 rw [List.mem_filter,decide_eq_true_iff]
 constructor
 ·rintro ⟨h1,h2⟩;exact ⟨pE h1,h2⟩
 ·rintro ⟨h1,h2⟩
  rcases tJ h1 with e | e
  ·exact absurd e h2
  ·exact ⟨e,h2⟩
theorem aDZ {H H':Hp}{p c:Addr}{xs:List V}{L:List V}(hp:H p=some (.lst L))(hc:H c=some (.tup xs))(sx:SameX p H H'):H' c=some (.tup xs):=sx _ _ (ne_of hc hp (fun z=>nomatch z)) hc
structure Td (n:Nat)(o:List Nat):Prop where
 len:o.length=n
 lt:∀ p∈o,p<n
noncomputable def Al (n:Nat) (H:Hp) (xs:List V) (Os:List (List Nat)):Prop:=xs.length=Os.length∧∀ (i:Nat) (o:List Nat),Os[i]?=some o→∃ c,xs[i]?=some (.ref c)∧H c=some (.tup (o.map bX))∧Td n o
theorem Td.perm {n:Nat}{o p:List Nat}(h:Td n o)(e:p.Perm o):Td n p:=⟨by rw [e.length_eq];exact h.len,fun x hx=>h.lt x (e.mem_iff.mp hx)⟩
theorem Td.mv {n:Nat}{o p:List Nat}(h:Td n o)(e:uC o p):Td n p:=h.perm (lM e)
theorem Al.same {n:Nat}{H H':Hp}{xs:List V}{Os:List (List Nat)}(h:Al n H xs Os)(s:Same H H'):Al n H' xs Os:=⟨h.1,fun i o e=>let ⟨c,e1,e2,e3⟩:=h.2 i o e;⟨c,e1,s _ _ e2,e3⟩⟩
theorem Al.sx {n:Nat}{H H':Hp}{p:Addr}{L xs:List V}{Os:List (List Nat)}(h:Al n H xs Os)(hp:H p=some (.lst L))(s:SameX p H H'):Al n H' xs Os:=⟨h.1,fun i o e=>let ⟨c,e1,e2,e3⟩:=h.2 i o e;⟨c,e1,aDZ hp e2 s,e3⟩⟩
theorem Al.at {n:Nat}{H:Hp}{xs:List V}{Os:List (List Nat)}(h:Al n H xs Os){i:Nat}{x:V}(hx:xs[i]?=some x):∃ c o,x = .ref c∧Os[i]?=some o∧H c=some (.tup (o.map bX))∧Td n o:=by
 have hi:i<xs.length:=(List.getElem?_eq_some_iff.mp hx).1
 have hi':i<Os.length:=by rw [← h.1];exact hi
 obtain ⟨c,e1,e2,e3⟩:=h.2 i Os[i] (List.getElem?_eq_getElem hi')
 rw [hx] at e1
 exact ⟨c,Os[i],Option.some.inj e1,List.getElem?_eq_getElem hi',e2,e3⟩
theorem Al.snoc {n:Nat}{H:Hp}{xs:List V}{Os:List (List Nat)}(h:Al n H xs Os){c:Addr}{o:List Nat}(hc:H c=some (.tup (o.map bX)))(ht:Td n o):Al n H (xs++[.ref c]) (Os++[o]):=by
 refine ⟨by rw [List.length_append,List.length_append,h.1];rfl,fun i x hx=>?_⟩
 by_cases c1:i<Os.length
 ·rw [List.getElem?_append_left c1] at hx
  rw [List.getElem?_append_left (by rw [h.1];exact c1)]
  exact h.2 i x hx
 ·rw [List.getElem?_append_right (by omega)] at hx
  rw [List.getElem?_append_right (by rw [h.1];omega),h.1]
  cases hj:i - Os.length with
  | zero=>rw [hj] at hx;cases hx;exact ⟨c,rfl,hc,ht⟩
  | succ k=>rw [hj] at hx;cases hx
section
variable {K:PySem.W.Frag}
theorem Al.rows {n:Nat}{H:Hp}{xs:List V}{Os:List (List Nat)}(h:Al n H xs Os):Rows K H xs (toI Os):=by
 refine ⟨by rw [hU,h.1],fun i r hr=>?_⟩
 unfold toI at hr
 rw [List.getElem?_map] at hr
 cases e:Os[i]? with
 | none=>rw [e] at hr;cases hr
 | some o=>
  rw [e] at hr
  obtain ⟨c,e1,e2,_⟩:=h.2 i o e
  cases hr
  exact ⟨c,e1, .of (by rw [aAY];exact e2)⟩
theorem eq_nil (L:List (List Nat)):eqD (.lst ((toI L).map fun r=>Dt.tup (r.map Dt.int))) (.lst [])=decide (L=[]):=by
 cases L with
 | nil=>simp [toI,eqD,eqL]
 | cons a L=>simp [toI,eqD,eqL]
theorem hZ {T:List (List Int)}{o:List Nat}(h:1≤o.length):vV T o=gL T o:=lR h
noncomputable def Stp (T:List (List Int)) (x y:List Nat):Prop:=gL T y<gL T x∧aEW x y
noncomputable def Bet (T:List (List Int)) (Os:List (List Nat)):Prop:=Os≠[]∧(∀ i x y,Os[i]?=some x→Os[i+1]?=some y→Stp T x y)∧∀ x,Os[Os.length - 1]?=some x→∀ o,uC x o→gL T x≤gL T o
theorem gG {H:Hp}{P:Addr}{pos:Pos}{q:Str}(h:TabS H P pos q):∃ ps,H P=some (.tbl ps):=by
 rcases h with h | ⟨c,h,_⟩
 ·exact ⟨_,h⟩
 ·exact ⟨_,h⟩
theorem aDT {H H':Hp}{a p:Addr}{xs:List V}{ps:Array Value}(h:SqT K H a xs)(hp:H p=some (.tbl ps))(sx:SameX p H H'):SqT K H' a xs:=by
 rcases h with (h | ⟨ob,h⟩) | h
 ·exact .inl (.inl (sx _ _ (ne_of h hp (fun z=>nomatch z)) h))
 ·exact .inl (.inr ⟨ob,sx _ _ (ne_of h hp (fun z=>nomatch z)) h⟩)
 ·exact .inr h
theorem zF {H H':Hp}{v:V}{p:Addr}{T:List (List Int)}{ps:Array Value}(h:Sh K H (mG T) v)(hp:H p=some (.tbl ps))(sx:SameX p H H'):Sh K H' (mG T) v:=by
 obtain ⟨a,rs,rfl,ha,hl,g⟩:=h.tab
 exact ⟨a,rs,rfl,aDT ha hp sx,ShL.of_rows hl fun i row e=>by
  obtain ⟨b,e1,e2⟩:=g i row e
  exact ⟨b,e1,aDT e2 hp sx⟩⟩
theorem qJ {H H':Hp}{p c:Addr}{xs:List V}{ps:Array Value}(hp:H p=some (.tbl ps))(hc:H c=some (.tup xs))(sx:SameX p H H'):H' c=some (.tup xs):=sx _ _ (ne_of hc hp (fun z=>nomatch z)) hc
theorem aAa {H H':Hp}{p c:Addr}{xs:List V}{ps:Array Value}(hp:H p=some (.tbl ps))(hc:H c=some (.lst xs))(sx:SameX p H H'):H' c=some (.lst xs):=sx _ _ (ne_of hc hp (fun z=>nomatch z)) hc
theorem Al.t {n:Nat}{H H':Hp}{p:Addr}{ps:Array Value}{xs:List V}{Os:List (List Nat)}(h:Al n H xs Os)(hp:H p=some (.tbl ps))(s:SameX p H H'):Al n H' xs Os:=⟨h.1,fun i o e=>let ⟨c,e1,e2,e3⟩:=h.2 i o e;⟨c,e1,qJ hp e2 s,e3⟩⟩
theorem zD {H:Hp}:∀ {xs:List V} {M:List (List Nat)},RwH K H xs (toI M)→∃ as:List Addr,xs=as.map V.ref∧∀ (i:Nat) (a:Addr),as[i]?=some a→∃ o:List Nat,M[i]?=some o∧H a=some (.tup (o.map bX))
 | [],M,h=>⟨[],rfl,fun i a e=>by cases e⟩
 | x :: xs,[],h=>by have:=h.1;cases this
 | x :: xs,m :: M,h=>by
  have h2:RwH K H xs (toI M):=⟨by have:=h.1;simpa [toI] using this,fun i row e=>h.2 (i+1) row (by simpa [toI] using e)⟩
  obtain ⟨as,rfl,g⟩:=zD h2
  obtain ⟨b,e1,e2⟩:=h.2 0 _ (by rfl)
  obtain rfl:x = .ref b:=Option.some.inj e1
  refine ⟨b :: as,rfl,fun i a e=>?_⟩
  cases i with
  | zero=>
   obtain rfl:b=a:=Option.some.inj e
   exact ⟨m,rfl,by rw [← aAY];exact e2⟩
  | succ i=>exact g i a e
noncomputable def shr (T:List (List Int)) (ps:List Nat):List (List Nat):=((mvA ps).filter fun o=>decide (o≠ps)).filter fun o=>decide (vV T o<vV T ps)
theorem zE {T:List (List Int)}{n:Nat}{ps o:List Nat}(h:Td n ps)(n1:1≤n):o∈shr T ps↔Stp T ps o:=by
 unfold shr
 rw [List.mem_filter,aBl,decide_eq_true_iff]
 constructor
 ·rintro ⟨h1,h2⟩
  have l:=(h.mv h1.1).len
  have l2:=h.len
  rw [hZ (by omega),hZ (by omega)] at h2
  exact ⟨h2,h1⟩
 ·rintro ⟨h1,h2⟩
  have l:=(h.mv h2.1).len
  have l2:=h.len
  refine ⟨h2,?_⟩
  rw [hZ (by omega),hZ (by omega)]
  exact h1
noncomputable abbrev qL:Str:=("bettered" ++ ".<locals>.") ++ "<lambda>"
noncomputable def aEm (K:PySem.W.Frag) (Pt:Addr):Sp:=fun vs H Q _=>∃ (v:V) (b:Addr) (T:List (List Int)) (n:Nat) (ps:List Nat),vs=[v, .ref b]∧Sh K H (mG T) v∧Quad T n∧Bnd T n∧1≤n∧n≤8∧H b=some (.tup (ps.map bX))∧Td n ps∧TabS H Pt dX qL ∧
 ∀ (F:Addr) (xs:List V) (Os:List (List Nat)) H',SameX Pt H H'→TabS H' Pt dX qL→H F=none→H' F=some (.lst xs)→Al n H' xs Os→Os[0]?=some ps→xs.length≤9000000→Bet T Os→Q (.ref F) H'
structure BtI (K:PySem.W.Frag)(Pt:Addr)(T:List (List Int))(n:Nat)(ps:List Nat)(H:Hp)(F S:Addr)(m:Nat)(H':Hp)(xs:List V)(Os:List (List Nat))(c:Addr)(o:List Nat)(ys:List V):Prop where
 sx:SameX Pt H H'
 tb:TabS H' Pt dX qL
 hF:H' F=some (.lst (xs++[.ref c]))
 al:Al n H' (xs++[.ref c]) (Os++[o])
 hc:H' c=some (.tup (o.map bX))
 td:Td n o
 st:∀ i x y,(Os++[o])[i]?=some x→(Os++[o])[i+1]?=some y→Stp T x y
 z:(Os++[o])[0]?=some ps
 hS:H' S=some (.lst ys)
 rw_:RwH K H' ys (toI (shr T o))
 su:gL T o=(m:Int)
 le:xs.length+m≤8000000
theorem aEI {Pt:Addr}:∀ vs H Q E,aEm K Pt vs H Q E→nO K Pt (aCL K) (spShort K) { nx:=fun _ H'=>Q .non H',rt:=Q } (bB ["table","round_","found","shorter"] vs) H:=by
 intro vs H Q E h
 obtain ⟨v,b,T,n,ps,rfl,hS,hq,bT,n1,n8,hb,tp,hT,q⟩:=h
 have bd:∀ o:List Nat,Td n o→0≤gL T o∧gL T o≤8000000:=fun o t=>aAO (fun i j hi hj=>⟨(bT i j hi hj).1,(bT i j hi hj).2.1⟩) t.lt (by rw [t.len];exact n8)
 refine ⟨_,rfl,show 1≤sizeLine by decide,fun F hF=>?_⟩
 have mF:=aH hF (.lst [.ref b])
 have hF1:(upd H F (.lst [.ref b])) F=some (.lst [.ref b]):=aD
 generalize upd H F (.lst [.ref b])=G at *
 have hFP:F≠Pt:=fun e=>by obtain ⟨_,z⟩:=gG hT;rw [← e,hF] at z;cases z
 refine ⟨_,rfl,_,rfl,v,b,T,n,ps,rfl,hS.same mF,hq, .of (mF _ _ hb),tp.len,n1,n8,tp.lt,fun S ys H1 m1 hS1 r1=>?_⟩
 have m01:=mF.trans m1
 refine ⟨fun m σ' H'=>∃ S xs Os c o ys,σ'=[some v,some (.ref b),some (.ref F),some (.ref S)]∧BtI K Pt T n ps H F S m H' xs Os c o ys,?_,?_⟩
 ·obtain ⟨b0,b1⟩:=bd ps tp
  obtain ⟨m,hm⟩:=Int.eq_ofNat_of_zero_le b0
  refine ⟨m,S,[],[],b,ps,ys,rfl,⟨m01.x,hT.same m01,m1 _ _ hF1,?_,m01 _ _ hb,tp,?_,rfl,hS1,r1,hm,by simp;omega⟩⟩
  ·exact Al.snoc (xs:=[]) (Os:=[]) ⟨rfl,fun i o e=>by cases e⟩ (m01 _ _ hb) tp
  ·intro i x y _ hy
   have:i+1<([]++[ps]:List (List Nat)).length:=(List.getElem?_eq_some_iff.mp hy).1
   simp at this
 ·rintro m σ' G ⟨S,xs,Os,c,o,ys,rfl,I⟩
  obtain ⟨as,rfl,ga⟩:=zD I.rw_
  refine ⟨_,rfl,_, .inl ⟨_, .of I.hS,rfl⟩,?_⟩
  by_cases c0:as=[]
  ·subst c0
   refine eM rfl ⟨_,rfl,q F _ _ G I.sx I.tb hF I.hF I.al I.z (by rw [List.length_append,List.length_singleton];have:=I.le;omega) ⟨by simp,I.st,fun x hx p hp=>?_⟩⟩
   have ex:o=x:=by simpa using hx
   subst ex
   have hn:shr T o=[]:=by
    have:=I.rw_.1
    rw [hU] at this
    exact List.eq_nil_of_length_eq_zero (by simpa using this.symm)
   by_cases ep:p=o
   ·rw [ep];exact Int.le_refl _
   ·refine Int.not_lt.mp fun z=>?_
    have:=(zE I.td n1).mpr (show Stp T o p from ⟨z,hp,ep⟩)
    rw [hn] at this
    cases this
  ·refine jP (by cases as with | nil=>exact absurd rfl c0 | cons _ _=>rfl) ?_
   obtain ⟨tp0,hP0⟩:=gG I.tb
   have hSG:Sh K G (mG T) v:=by
    obtain ⟨_,z⟩:=gG hT
    exact zF hS z I.sx
   have mem:∀ {i a},as[i]?=some a→∃ o',G a=some (.tup (o'.map bX))∧(shr T o)[i]?=some o'∧Stp T o o'∧Td n o':=fun {i a} e=>by
    obtain ⟨o',e1,e2⟩:=ga i a e
    have st:=(zE I.td n1).mp (List.mem_of_getElem? e1)
    exact ⟨o',e2,e1,st,I.td.mv st.2.1⟩
   refine ⟨fun σ2 H2=>∃ m',m'<m∧∃ S xs Os c o ys,σ2=[some v,some (.ref b),some (.ref F),some (.ref S)]∧BtI K Pt T n ps H F S m' H2 xs Os c o ys,fun σ2 H2 h=>h,?_⟩
   refine ⟨_,rfl, .inl ⟨rfl,_, .of I.hF⟩,_,rfl,S,as,v,fun i=>vV T ((shr T o).getD i []),rfl, .of I.hS,c0,rfl,I.tb,fun i a ea H2 sx2=>?_,fun i a H2 ea hmin sx2 tb2=>?_⟩
   ·obtain ⟨o',e1,e2,st,t'⟩:=mem ea
    refine ⟨v,a,T,n,o',rfl,zF hSG hP0 sx2,hq,by omega, .of (qJ hP0 e1 sx2),t'.len,n1,t'.lt,fun H3 m3=>⟨?_,m3⟩⟩
    show V.int (vV T o')=V.int (vV T ((shr T o).getD i []))
    rw [List.getD_eq_getElem?_getD,e2]
    rfl
   ·obtain ⟨o',e1,e2,st,t'⟩:=mem ea
    have hF2:=aAa hP0 I.hF sx2
    refine ⟨F,_, .ref a,rfl,rfl,hF2,Nat.lt_of_le_of_lt (show _≤8000001 by rw [List.length_append,List.length_singleton];have:=I.le;omega) (by decide),?_⟩
    have hl3:(upd H2 F (.lst ((xs++[.ref c])++[.ref a]))) F=some (.lst ((xs++[.ref c])++[.ref a])):=aD
    have sx3:SameX F H2 (upd H2 F (.lst ((xs++[.ref c])++[.ref a]))):=SameX.put _
    have sxx:SameX Pt H (upd H2 F (.lst ((xs++[.ref c])++[.ref a]))):=fun d u n e=>sx3 _ _ (aM e hF) (sx2 _ _ n (I.sx _ _ n e))
    have tb3:TabS (upd H2 F (.lst ((xs++[.ref c])++[.ref a]))) Pt dX qL:=by
     rcases tb2 with z | ⟨d,z1,z2⟩
     ·exact .inl (sx3 _ _ (Ne.symm hFP) z)
     ·exact .inr ⟨d,sx3 _ _ (Ne.symm hFP) z1,sx3 _ _ (ne_of z2 hF2 (fun z=>nomatch z)) z2⟩
    have al3:=((I.al.t hP0 sx2).sx hF2 sx3)
    have ha3:=aDZ hF2 (qJ hP0 e1 sx2) sx3
    have hS3:Sh K (upd H2 F (.lst ((xs++[.ref c])++[.ref a]))) (mG T) v:=aCV (zF hSG hP0 sx2) hF2 sx3
    generalize upd H2 F (.lst ((xs++[.ref c])++[.ref a]))=G3 at *
    refine ⟨_,rfl,_,rfl,1,rfl,iR (v := .ref a) (.of hl3) (by simp) ⟨v,a,T,n,o',rfl,hS3,hq, .of ha3,t'.len,n1,n8,t'.lt,fun S2 zs H4 m4 hS4 r4=>?_⟩⟩
    obtain ⟨b0,b1⟩:=bd o' t'
    obtain ⟨m',hm'⟩:=Int.eq_ofNat_of_zero_le b0
    have hlt:=st.1
    have hsu:=I.su
    refine ⟨m',by omega,S2,xs++[.ref c],Os++[o],a,o',zs,rfl,⟨sxx.trans m4.x,tb3.same m4,m4 _ _ hl3,(al3.snoc ha3 t').same m4,m4 _ _ ha3,t',?_,?_,hS4,r4,hm',by rw [List.length_append,List.length_singleton];have:=I.le;omega⟩⟩
    ·intro j x y hx hy
     have hj:j+1<(Os++[o]++[o']).length:=(List.getElem?_eq_some_iff.mp hy).1
     rw [List.length_append,List.length_singleton] at hj
     by_cases cj:j+1<(Os++[o]).length
     ·rw [List.getElem?_append_left (by omega)] at hx
      rw [List.getElem?_append_left cj] at hy
      exact I.st j x y hx hy
     ·have ej:j=Os.length:=by rw [List.length_append,List.length_singleton] at cj hj;omega
      subst ej
      have e1:o=x:=by simpa using hx
      have e2:o'=y:=by
       rw [List.getElem?_append_right (by simp)] at hy
       simpa using hy
      rw [← e1,← e2]
      exact st
    ·rw [List.getElem?_append_left (by simp)]
     exact I.z
end
end K60
namespace L2
open PySem
theorem aAB {K:PySem.W.Frag}{b1 b2:Bool}{l1 l2:Addr}{xs ys:List V}{g:TG}{tb:TS}{D:iE}{σ:St}{H:Hp}(hlen:ys.length≤xs.length)(Pv:Nat→St→Hp→Prop)(h0:Pv 0 σ H)(hl:∀ i σ H,i≤ys.length→Pv i σ H→SqB b1 K H l1 xs∧SqB b2 K H l2 ys)
  (hs:∀ i x y σ H p,xs[i]?=some x→ys[i]?=some y→H p=none→Pv i σ H→g (.ref p) σ (upd H p (.tup [x,y])) fun σ2 H2=>tb { D with nx:=Pv (i+1),ct:=Pv (i+1),bk:=D.nx } σ2 H2) (hd:∀ σ H,Pv ys.length σ H→D.nx σ H) :
  fK (Itz K b1 b2 l1 l2) g tb D σ H:=by
 refine ⟨fun i m σ H=>m=ys.length - i∧i≤ys.length∧Pv i σ H,⟨ys.length,by simp,Nat.zero_le _,h0⟩,?g⟩
 case g=>
 rintro i m σ H ⟨rfl,hi,p⟩
 obtain ⟨q1,q2⟩:=hl i σ H hi p
 by_cases hlt:i<ys.length
 ·refine .inr ⟨⟨xs,ys,xs[i],ys[i],q1,q2,by simp [show i<xs.length by omega],by simp [hlt]⟩,Pv (i+1),fun σ' H' p'=>⟨ys.length - (i+1),by omega,rfl,hlt,p'⟩,fun v H' ⟨a,x,y,e1,e2,e3,e4,e5⟩=>?g⟩
  case g=>
  subst e1;subst e3
  exact hs i x y σ H a (e4 xs q1) (e5 ys q2) e2 p
 ·obtain rfl:i=ys.length:=by omega
  exact .inl ⟨⟨xs,ys,q1,q2, .inr (Nat.le_refl _)⟩,hd σ H p⟩
end L2
namespace K60
open PySem L2
theorem aCK {R:List (List Nat)}{o:List Nat}:(o.map fun p:Nat=>(p:Int))∈toI R↔o∈R:=by
 unfold toI
 rw [List.mem_map]
 exact ⟨fun ⟨x,hx,e⟩=>oQ e ▸ hx,fun h=>⟨o,h,rfl⟩⟩
theorem RwH.rows {K:PySem.W.Frag}{H:Hp}{xs:List V}{T:List (List Int)}(h:RwH K H xs T):Rows K H xs T:=⟨h.1,fun i row e=>let ⟨b,e1,e2⟩:=h.2 i row e;⟨b,e1, .of e2⟩⟩
noncomputable def bo (p:Prop):Bool:=@decide p (Classical.propDecidable p)
theorem zG {p:Prop}:bo p=true↔p:=by unfold bo;exact @decide_eq_true_iff p (Classical.propDecidable p)
section
variable {K:PySem.W.Frag}
noncomputable def aEz (K:PySem.W.Frag):Sp:=fun vs H Q _=>∃ (a b:Addr) (ps os:List Nat),vs=[.ref a, .ref b]∧SqT K H a (ps.map bX)∧SqT K H b (os.map bX)∧1≤ps.length∧ps.length≤8∧∀ c H',(c=true↔aEW ps os)→Same H H'→Q (.bl c) H'
theorem aEZ:∀ vs H Q E,aEz K vs H Q E→rB K (mJ K) { nx:=fun _ H'=>Q .non H',rt:=Q } (bB ["one","other"] vs) H:=by
 intro vs H Q E h
 obtain ⟨a,b,ps,os,rfl,ha,hb,h1,h8,q⟩:=h
 refine ⟨_,rfl,_,rfl,a,ps,rfl,ha,h1,h8,fun l xs H1 m1 hl hR => .inr ⟨b,l,os.map fun p:Nat=>(p:Int),xs,_,rfl,rfl,by rw [aAY];exact m1.tup hb, .inl (.of hl),hR.rows,q _ H1 ?_ m1⟩⟩
 show decide _=true↔_
 rw [decide_eq_true_iff,aCK,aBl]
noncomputable def yO (K:PySem.W.Frag):Sp:=fun vs H Q _=>∃ (v:V) (b:Addr) (T:List (List Int)) (n:Nat) (ps:List Nat),vs=[v, .ref b]∧Sh K H (mG T) v∧Quad T n∧SqT K H b (ps.map bX)∧ps.length=n∧1≤n∧n≤8∧(∀ p∈ps,p<n)∧∀ (c:Bool) H',Same H H'→(c=true↔∀ o,uC ps o→gL T ps≤gL T o)→Q (.bl c) H'
theorem aCS:∀ vs H Q E,yO K vs H Q E→kK K (spShort K) { nx:=fun _ H'=>Q .non H',rt:=Q } (bB ["table","round_"] vs) H:=by
 intro vs H Q E h
 obtain ⟨v,b,T,n,ps,rfl,hS,hq,hb,hl,h1,h8,hlt,q⟩:=h
 refine ⟨_,rfl,_,rfl,v,b,T,n,ps,rfl,hS,hq,hb,hl,h1,h8,hlt,fun l xs H1 m1 hl1 r1=>?_⟩
 refine ⟨show 0≤sizeLine by decide,fun z hz=>?_⟩
 have mz:=aH hz (.lst [])
 refine ⟨_, .lst [],rF _,(r1.rows.sh (.of hl1)).same mz,⟨z,[],rfl, .of aD,rfl⟩,q _ _ (m1.trans mz) ?_⟩
 rw [← sO (by omega)]
 have e:∀ L:List (List Nat),(eqD (.lst ((toI L).map fun r=>Dt.tup (r.map Dt.int))) (.lst [])=true↔L=[]):=fun L=>by
  cases L with
  | nil=>simp [toI,eqD,eqL]
  | cons a L=>simp [toI,eqD,eqL]
 exact e _
noncomputable def aEl (K:PySem.W.Frag):Sp:=fun vs H Q _=>∃ (v:V) (a b:Addr) (T:List (List Int)) (n:Nat) (ps os:List Nat),vs=[v, .ref a, .ref b]∧Sh K H (mG T) v∧Quad T n∧1≤n∧n≤8∧H a=some (.tup (ps.map bX))∧H b=some (.tup (os.map bX))∧Td n ps∧Td n os∧∀ c H',(c=true↔Stp T ps os)→Same H H'→Q (.bl c) H'
theorem aEJ:∀ vs H Q E,aEl K vs H Q E→fA K (aEz K) (aCL K) { nx:=fun _ H'=>Q .non H',rt:=Q } (bB ["table","one","other"] vs) H:=by
 intro vs H Q E h
 obtain ⟨v,a,b,T,n,ps,os,rfl,hS,hq,n1,n8,ha,hb,tp,to_,q⟩:=h
 have l1:=tp.len
 have l2:=to_.len
 refine ⟨_,rfl,_,rfl,v,b,T,n,os,rfl,hS,hq,by omega, .of hb,l2,n1,to_.lt,fun H1 m1=>?_⟩
 refine ⟨_,rfl,_,rfl,v,a,T,n,ps,rfl,hS.same m1,hq,by omega, .of (m1 _ _ ha),l1,n1,tp.lt,fun H2 m2=>?_⟩
 rw [hZ (by omega),hZ (by omega)]
 refine ⟨_,_,rfl,rfl,_,rfl,?_⟩
 have m12:=m1.trans m2
 by_cases c:gL T os<gL T ps
 ·refine jP (decide_eq_true c) ?_
  exact ⟨_,rfl,_,rfl,a,b,ps,os,rfl, .of (m12 _ _ ha), .of (m12 _ _ hb),by omega,by omega,fun d H3 hd m3=>q d H3 ⟨fun z=>⟨c,hd.mp z⟩,fun z=>hd.mpr z.2⟩ (m12.trans m3)⟩
 ·exact eM (decide_eq_false c) (q false H2 ⟨(fun z=>by cases z),fun z=>absurd z.1 c⟩ m12)
noncomputable def aEn (K:PySem.W.Frag):Sp:=fun vs H Q _=>∃ (v:V) (L:Addr) (T:List (List Int)) (n:Nat) (xs:List V) (Os:List (List Nat)),vs=[v, .ref L]∧Sh K H (mG T) v∧Quad T n∧1≤n∧n≤8∧H L=some (.lst xs)∧Al n H xs Os∧xs.length≤9000000∧∀ c H',(c=true↔Bet T Os)→Same H H'→Q (.bl c) H'
theorem aFL (xs:List V):kA xs (some 1) none=xs.drop 1:=by
 unfold kA
 rw [show HT.sIx xs.length 0 (some 1)=min 1 xs.length by rfl]
 cases xs with
 | nil=>rfl
 | cons p xs=>
  simp [HT.sIx]
theorem aFa:∀ vs H Q E,aEn K vs H Q E→gR K (yO K) (aEl K) { nx:=fun _ H'=>Q .non H',rt:=Q } (bB ["table","some","steps"] vs) H:=by
 intro vs H Q E h
 obtain ⟨v,L,T,n,xs,Os,rfl,hS,hq,n1,n8,hL,hA,hz,q⟩:=h
 refine ⟨_,rfl,show 0≤sizeLine by decide,fun E hE=>?_⟩
 have mE:=aH hE (.lst [])
 refine ⟨_, .lst [],rF _,(hA.rows.sh (.of hL)).same mE,⟨E,[],rfl, .of aD,rfl⟩,_,rfl,?_⟩
 rw [eq_nil]
 by_cases c0:Os=[]
 ·exact jP (decide_eq_true c0) (q false _ ⟨(fun z=>by cases z),fun z=>absurd c0 z.1⟩ mE)
 refine eM (decide_eq_false c0) ?_
 generalize upd H E (.lst [])=H1 at *
 have hL1:=mE _ _ hL
 have hA1:=hA.same mE
 refine ⟨_,rfl,_,rfl,_,rfl, .inl ⟨L,xs,rfl, .of hL1,fun M hM=>?_⟩⟩
 rw [aFL]
 have mM:=aH hM (.lst (xs.drop 1))
 have hM2:(upd H1 M (.lst (xs.drop 1))) M=some (.lst (xs.drop 1)):=aD
 generalize upd H1 M (.lst (xs.drop 1))=H2 at *
 have m02:=mE.trans mM
 have hL2:=mM _ _ hL1
 refine ⟨L,M,true,true,rfl,⟨_, .of hL2⟩,⟨_, .of hM2⟩,fun acc hacc=>?_⟩
 have hA2:=hA1.same mM
 have hne:1≤Os.length:=by
  cases Os with
  | nil=>exact absurd rfl c0
  | cons _ _=>simp
 have hdl:(xs.drop 1).length=Os.length - 1:=by rw [List.length_drop,hA.1]
 refine aAB (K:=K) (xs:=xs) (ys:=xs.drop 1) (by rw [List.length_drop];omega) (fun i σ' H'=>i≤(xs.drop 1).length∧(∃ y0 y1,σ'=[y0,y1,some v])∧Same H2 H'∧H' acc=some (.lst (((List.range i).map fun i=>bo (Stp T (Os.getD i []) (Os.getD (i+1) []))).map V.bl))) ⟨Nat.zero_le _,⟨none,none,rfl⟩,aH hacc _,aD⟩ (fun i σ' H' _ ⟨_,_,m,_⟩=>⟨.of (m _ _ hL2), .of (m _ _ hM2)⟩) (fun i x y σ1 H3 p hx hy hp ⟨_,⟨y0,y1,es⟩,m3,ha3⟩=>?_) fun σ1 H' ⟨_,_,s4,hl'⟩=>?_
 ·subst es
  have hi:i<(xs.drop 1).length:=(List.getElem?_eq_some_iff.mp hy).1
  rw [List.getElem?_drop,Nat.add_comm] at hy
  have sp:=aH hp (.tup [x,y])
  have hA3:=hA2.same (m3.trans sp)
  obtain ⟨c,o,rfl,ho,hc,to_⟩:=hA3.at hx
  obtain ⟨d,r,rfl,hr,hd,tr⟩:=hA3.at hy
  refine ⟨p,[_,_],rfl, .of aD,rfl,_,[_],rfl,_,[],rfl,rfl,?_⟩
  refine ⟨_,rfl,_,rfl,_,rfl,v,c,d,T,n,o,r,rfl,hS.same ((m02.trans m3).trans sp),hq,n1,n8,hc,hd,to_,tr,fun b H' hb m=>?_⟩
  have eb:b=bo (Stp T (Os.getD i []) (Os.getD (i+1) [])):=by
   rw [List.getD_eq_getElem?_getD,List.getD_eq_getElem?_getD,ho,hr]
   exact Bool.eq_iff_iff.mpr (hb.trans zG.symm)
  refine ⟨_,m _ _ (sp _ _ ha3),by rw [List.length_map,List.length_map,List.length_range];exact Nat.lt_of_le_of_lt (show i≤9000000 by have:=hA.1;omega) (by decide),hi,⟨_,_,rfl⟩,tG hacc ((m3.trans sp).trans m),?_⟩
  rw [eb,List.range_succ,List.map_append,List.map_append]
  exact aD
 ·dsimp only
  refine ⟨_,rfl,acc,_,rfl, .inl (.of hl'),_,rfl,?_⟩
  have steps:((List.range (xs.drop 1).length).map fun i=>bo (Stp T (Os.getD i []) (Os.getD (i+1) []))).all id=true↔∀ i x y,Os[i]?=some x→Os[i+1]?=some y→Stp T x y:=by
   rw [List.all_map,List.all_eq_true]
   constructor
   ·intro h i x y hx hy
    have hi:i+1<Os.length:=(List.getElem?_eq_some_iff.mp hy).1
    have:=zG.mp (h i (List.mem_range.mpr (by omega)))
    rw [List.getD_eq_getElem?_getD,List.getD_eq_getElem?_getD,hx,hy] at this
    exact this
   ·intro h i hi
    have hi:=List.mem_range.mp hi
    have g1:i<Os.length:=by omega
    have g2:i+1<Os.length:=by omega
    refine zG.mpr ?_
    rw [List.getD_eq_getElem?_getD,List.getD_eq_getElem?_getD,List.getElem?_eq_getElem g1,List.getElem?_eq_getElem g2]
    exact h i _ _ (List.getElem?_eq_getElem g1) (List.getElem?_eq_getElem g2)
  have s04:=m02.trans s4
  by_cases ca:∀ i x y,Os[i]?=some x→Os[i+1]?=some y→Stp T x y
  ·rw [steps.mpr ca]
   refine jP rfl ?_
   have hlast:xs.length - 1<xs.length:=by rw [hA.1];omega
   obtain ⟨c,o,ex,ho,hc,to_⟩:=(hA.same s04).at (List.getElem?_eq_getElem hlast)
   refine ⟨_,rfl,_,rfl,1,rfl,iR (v := .ref c) (.of (s4 _ _ hL2)) (by rw [List.getElem?_eq_getElem hlast,ex]) ⟨v,c,T,n,o,rfl,hS.same s04,hq, .of hc,to_.len,n1,n8,to_.lt,fun b H5 m5 hb=>q b H5 ⟨fun z=>⟨c0,ca,fun x hx=>?_⟩,fun z=>?_⟩ (s04.trans m5)⟩⟩
   ·rw [← hA.1] at hx
    rw [ho] at hx
    obtain rfl:=Option.some.inj hx
    exact hb.mp z
   ·exact hb.mpr (z.2.2 o (by rw [← hA.1];exact ho))
  ·have:((List.range (xs.drop 1).length).map fun i=>bo (Stp T (Os.getD i []) (Os.getD (i+1) []))).all id=false:=by
    rw [← Bool.not_eq_true];exact fun z=>ca (steps.mp z)
   rw [this]
   exact eM rfl (q false _ ⟨(fun z=>by cases z),fun z=>absurd z.2.1 ca⟩ s04)
end
end K60
namespace K60.L
open PySem L2
noncomputable def whD:Dt→Bool
 | .int _=>true
 | _=>false
noncomputable def aEt:Dt→Bool
 | .tup ds=>ds.all whD
 | _=>false
noncomputable def spW (K:PySem.W.Frag):Sp:=fun vs H Q _=>∃ (v:V) (d:Dt),vs=[v]∧Sh K H d v∧∀ H',Same H H'→Q (.bl (whD d)) H'
noncomputable def spWs (K:PySem.W.Frag):Sp:=fun vs H Q _=>∃ (v:V) (d:Dt),vs=[v]∧Sh K H d v∧(∀ ds,d = .tup ds→ds.length≤1000)∧∀ H',Same H H'→Q (.bl (aEt d)) H'
theorem tM {α β:Type}(f:α→β)(e:α):∀ ds:List α,(List.range ds.length).flatMap (fun i=>[f (ds.getD i e)])=ds.map f
 | []=>rfl
 | d :: ds=>by
  rw [List.length_cons,List.range_succ_eq_map,List.flatMap_cons,List.flatMap_map,List.map_cons,← tM f e ds]
  rfl
section
variable {K:PySem.W.Frag}
theorem rd_whole:∀ vs H Q E,spW K vs H Q E→nX K { nx:=fun _ H'=>Q .non H',rt:=Q } (bB ["thing"] vs) H:=by
 intro vs H Q E h
 obtain ⟨v,d,rfl,hS,q⟩:=h
 have q0:=q H (Same.refl _)
 refine ⟨_,rfl,v,d,"int",rfl,by decide,hS,_,rfl,?_⟩
 by_cases hi:aBE d "int" = true
 ·rw [if_pos hi]
  refine ⟨_,rfl,v,d,"bool",rfl,by decide,hS,_,rfl,?_⟩
  cases d <;> first | exact q0 | (exact absurd hi (by simp [aBE]))
 ·rw [if_neg hi]
  cases d <;> first | exact q0 | (exact absurd (by rfl) hi)
theorem rd_wholes:∀ vs H Q E,spWs K vs H Q E→kQ K (spW K) { nx:=fun _ H'=>Q .non H',rt:=Q } (bB ["thing"] vs) H:=by
 intro vs H Q E h
 obtain ⟨v,d,rfl,hS,hz,q⟩:=h
 refine ⟨_,rfl,v,d,"tuple",rfl,by decide,hS,_,rfl,?_⟩
 by_cases hi:aBE d "tuple" = true
 ·rw [if_pos hi]
  cases d with
  | tup ds=>
   obtain ⟨a,xs,rfl,ha,hL⟩:=id hS
   have hl:ds.length=xs.length:=hL.length
   refine ⟨_,rfl,a,rfl, .inr ⟨⟨xs,ha⟩,fun acc hacc=>?_⟩⟩
   refine fE [0] ((ds.map whD).map V.bl) hacc (by rw [List.length_map,List.length_map];exact Nat.le_trans (hz ds rfl) (by decide)) ?_ fun σ' H' sm hl'=>⟨acc,ds.map whD,rfl, .inl (.of hl'),?_⟩
   ·refine Emits.cast (L:=(List.range xs.length).flatMap fun i=>[V.bl (whD (ds.getD i .non))]) ?_ (by rw [← hl,tM (fun d=>V.bl (whD d)),List.map_map];rfl)
    refine zT (by decide) (by show 0<1;decide) (fun H' sx=>(cE hacc sx).tup ha) fun i x σ1 H1 hx l1 ag1 s1 sx1 _=>?_
    refine iN fun Q hQ=>?_
    have hi':i<ds.length:=by rw [hl];exact (List.getElem?_eq_some_iff.mp hx).1
    obtain ⟨y,hy,sy⟩:=hL.get (j:=i) (d:=ds.getD i .non) (by rw [List.getD_eq_getElem?_getD];simp [hi'])
    obtain rfl:y=x:=by rw [hx] at hy;cases hy;rfl
    exact ⟨_,s1,y,_,rfl,sy.same (cE hacc sx1),hQ⟩
   ·have:=q H' sm
    rw [show aEt (.tup ds)=ds.all whD from rfl] at this
    rw [List.all_map]
    exact this
  | _=>exact absurd hi (by simp [aBE])
 ·rw [if_neg hi]
  have q0:=q H (Same.refl _)
  cases d <;> first | exact q0 | (exact absurd (by rfl) hi)
end
noncomputable def intsOf:List Dt→List Int
 | []=>[]
 | .int i :: ds=>i :: intsOf ds
 | _ :: ds=>0 :: intsOf ds
theorem yZ:∀ {ds:List Dt},ds.all whD=true→ds=(intsOf ds).map Dt.int
 | [],_=>rfl
 | d :: ds,h=>by
  rw [List.all_cons,Bool.and_eq_true] at h
  cases d with
  | int i=>rw [intsOf,List.map_cons,← yZ h.2]
  | _=>exact absurd h.1 (by simp [whD])
theorem lU:∀ ns:List Int,jZ (ns.map Dt.int)=0
 | []=>rfl
 | n :: ns=>by rw [List.map_cons,jZ,lU ns];rfl
theorem aCi (ns:List Int):dep (.tup (ns.map Dt.int))≤100:=by rw [dep,lU];decide
theorem aCB (ns:List Int):dep (.lst (ns.map Dt.int))≤100:=by rw [dep,lU];decide
theorem dL:∀ (ns ms:List Int),eqL (ns.map Dt.int) (ms.map Dt.int)=decide (ns=ms)
 | [],[]=>by unfold eqL;rfl
 | [],m :: ms=>by simp [eqL]
 | n :: ns,[]=>by simp [eqL]
 | n :: ns,m :: ms=>by
  rw [List.map_cons,List.map_cons,eqL,dL ns ms,eqD]
  by_cases h:n=m <;> by_cases h':ns=ms <;> simp [h,h']
theorem yI {ns ms ks:List Int}(p:ms.Perm ns)(s:ms.Pairwise (·≤·))(sk:ks.Pairwise (·≤·)):decide (ms=ks)=ns.isPerm ks:=by
 by_cases h:ns.Perm ks
 ·have e:ms=ks:=List.Perm.eq_of_pairwise (le:=(·≤·)) (fun a b _ _ h1 h2=>Int.le_antisymm h1 h2) s sk (p.trans h)
  rw [e,List.isPerm_iff.mpr h]
  simp
 ·have hn:ns.isPerm ks=false:=by
   cases hb:ns.isPerm ks with
   | false=>rfl
   | true=>exact absurd (List.isPerm_iff.mp hb) h
  rw [hn]
  exact decide_eq_false fun e=>h (e ▸ p.symm)
noncomputable def roD (n:Nat):Dt→Bool
 | .tup ds=>ds.all whD && (decide ((intsOf ds).take 1=[0]) && (intsOf ds).isPerm (oN 0 (n:Int)))
 | _=>false
noncomputable def spRound (K:PySem.W.Frag):Sp:=fun vs H Q _=>∃ (ta:Addr) (rs:List V) (v:V) (d:Dt),vs=[.ref ta,v]∧SqT K H ta rs∧rs.length≤9∧Sh K H d v∧(∀ ds,d = .tup ds→ds.length<64)∧∀ H',Same H H'→Q (.bl (roD rs.length d)) H'
theorem vF (lo hi:Int):(oN lo hi).Pairwise (·≤·):=by
 unfold oN
 rw [List.pairwise_map]
 exact List.Pairwise.imp (fun h=>by omega) List.pairwise_lt_range
section
variable {K:PySem.W.Frag}
theorem rd_round:∀ vs H Q E,spRound K vs H Q E→oA K (spWs K) { nx:=fun _ H'=>Q .non H',rt:=Q } (bB ["table","thing"] vs) H:=by
 intro vs H Q E h
 obtain ⟨ta,rs,v,d,rfl,hT,hr,hS,hz,q⟩:=h
 refine ⟨_,rfl,v,d,rfl,hS,fun ds e=>Nat.le_trans (Nat.le_of_lt (hz ds e)) (by decide),fun H1 s1=>⟨_,rfl,?_⟩⟩
 cases hw:aEt d with
 | false=>
  refine aEy ?_
  have:=q H1 s1
  rw [show roD rs.length d=false by cases d <;> first | rfl | (simp only [roD];rw [show List.all _ whD=false from hw];rfl)] at this
  exact this
 | true=>
  refine aDA ?_
  cases d with
  | tup ds=>
   have hd:=yZ hw
   have hq:∀ H',Same H H'→Q (.bl (decide ((intsOf ds).take 1=[0]) && (intsOf ds).isPerm (oN 0 (rs.length:Int)))) H':=fun H' e=>by
    have:=q H' e
    rw [show roD rs.length (.tup ds)=(ds.all whD && _) from rfl,show ds.all whD=true from hw,Bool.true_and] at this
    exact this
   have hl:(intsOf ds).length<64:=by
    have:=hz ds rfl
    rw [hd,List.length_map] at this
    exact this
   generalize hns:intsOf ds=ns at *
   subst hd
   obtain ⟨a,xs,rfl,ha,hL⟩:=id hS
   obtain rfl:=hL.of_ints
   refine ⟨_,rfl,_,rfl, .inr ⟨a,_,rfl,s1.tup ha,fun p H2 s2 hp=>?_⟩⟩
   have hc:kA (ns.map V.int) none (some 1)=(ns.take 1).map V.int:=by
    unfold kA
    rw [List.map_take]
    show List.take (HT.sIx _ _ (some 1) - 0) (List.drop 0 _)=_
    rw [List.drop_zero,Nat.sub_zero]
    cases ns <;> simp [HT.sIx]
   rw [hc] at hp
   refine ⟨by decide,fun p2 hp2=>⟨.tup ((ns.take 1).map Dt.int), .tup ([0].map Dt.int),aCi _,⟨p,_,rfl,(aH hp2 _).tup hp,ShL.ints _⟩,⟨p2,_,rfl, .of aD,ShL.ints _⟩,_,rfl,?_⟩⟩
   rw [show eqD (.tup ((ns.take 1).map Dt.int)) (.tup ([0].map Dt.int))=decide (ns.take 1=[0]) by rw [eqD];exact dL _ _]
   have s3:Same H1 (upd H2 p2 (.tup ([0].map V.int))):=s2.trans (aH hp2 _)
   by_cases h0:ns.take 1=[0]
   ·rw [if_pos (decide_eq_true h0)]
    refine ⟨_,rfl,a,ns,rfl, .inr (s3.tup (s1.tup ha)),hl,fun ms pm sm l hl2=>?_⟩
    have s4:=s3.trans (aH hl2 (.lst (ms.map V.int)))
    refine ⟨_,rfl,ta,rs,rfl, .inr (s4.tup (s1.tup hT)),?_⟩
    refine .inl ⟨_,rfl,fun pr hpr=>?_⟩
    have s5:=s4.trans (aH hpr (.rng 0 (rs.length:Int)))
    refine .inr ⟨pr,0,_,rfl,aD,⟨by omega,by omega,by omega,by omega,by omega⟩,fun p4 hp4=>?_⟩
    have s6:=s5.trans (aH hp4 (.lst ((oN 0 (rs.length:Int)).map V.int)))
    refine ⟨.lst (ms.map Dt.int), .lst ((oN 0 (rs.length:Int)).map Dt.int),aCB _,⟨l,_,rfl, .of ?_,ShL.ints _⟩,⟨p4,_,rfl, .of aD,ShL.ints _⟩,?_⟩
    ·exact (aH hp4 _) _ _ ((aH hpr _) _ _ aD)
    ·rw [show eqD (.lst (ms.map Dt.int)) (.lst ((oN 0 (rs.length:Int)).map Dt.int))=decide (ms=oN 0 (rs.length:Int)) by rw [eqD];exact dL _ _,yI pm sm (vF _ _)]
     have:=hq _ (s1.trans s6)
     rw [decide_eq_true h0,Bool.true_and] at this
     exact this
   ·rw [if_neg (by rw [decide_eq_false h0];exact Bool.false_ne_true)]
    have:=hq _ (s1.trans s3)
    rw [decide_eq_false h0,Bool.false_and] at this
    exact this
  | _=>exact absurd hw (by simp [aEt])
end
end K60.L
namespace K60.S
open PySem L2
noncomputable def ins (p:Nat):List Nat→List Nat
 | []=>[p]
 | a :: l=>if p<a then p :: a :: l else a :: ins p l
theorem jB {p:Nat}:∀ {l:List Nat},(ins p l).Perm (l++[p])
 | [] => .refl _
 | a :: l=>by
  unfold ins
  split
  ·exact (List.perm_append_comm (l₁:=[p]) (l₂:=a :: l))
  ·exact (jB (l:=l)).cons a
theorem jV {p x:Nat}{l:List Nat}:x∈ins p l↔x=p∨x∈l:=by
 rw [jB.mem_iff,List.mem_append,List.mem_singleton];exact Or.comm
theorem yR {p:Nat}{l:List Nat}:(ins p l).length=l.length+1:=by rw [jB.length_eq,List.length_append];rfl
theorem aBz {p:Nat}:∀ {l:List Nat},l.Pairwise (· < ·)→p∉l→(ins p l).Pairwise (· < ·)
 | [],_,_=>List.pairwise_singleton ..
 | a :: l,h,hp=>by
  unfold ins
  rw [List.pairwise_cons] at h
  split
  ·rename_i c
   exact List.pairwise_cons.mpr ⟨fun b hb=>by
    rcases List.mem_cons.mp hb with e | hb
    ·omega
    ·have:=h.1 b hb;omega,List.pairwise_cons.mpr h⟩
  ·rename_i c
   have:a≠p:=fun e=>hp (by rw [e];exact List.mem_cons_self ..)
   refine List.pairwise_cons.mpr ⟨fun b hb=>?_,aBz h.2 fun q=>hp (List.mem_cons_of_mem _ q)⟩
   rcases jV.mp hb with e | hb
   ·omega
   ·exact h.1 b hb
noncomputable def aV:Nat→List (List Nat)
 | 0=>[[0]]
 | k+1=>aV k++(aV k).map (· ++ [k+1])
noncomputable def left (n:Nat) (s:List Nat):List Nat:=(List.range n).filter fun p=>!s.contains p
theorem iO {n p:Nat}{s:List Nat}:p∈left n s↔p<n∧p∉s:=by
 unfold left
 rw [List.mem_filter,List.mem_range]
 simp
noncomputable def jL (s:List Nat):List Nat:=if s.tail.isEmpty=true then s else s.tail
noncomputable def upB:List Nat→Bool
 | []=>true
 | [_]=>true
 | a :: b :: l=>decide (a<b) && upB (b :: l)
theorem aDw:∀ {l:List Nat},upB l=true→l.Pairwise (· < ·)
 | [],_ => .nil
 | [_],_=>List.pairwise_singleton ..
 | a :: b :: l,h=>by
  unfold upB at h
  rw [Bool.and_eq_true] at h
  have ih:=aDw h.2
  refine List.pairwise_cons.mpr ⟨fun c hc=>?_,ih⟩
  have h1:=of_decide_eq_true h.1
  rcases List.mem_cons.mp hc with e | hc
  ·omega
  ·have:=(List.pairwise_cons.mp ih).1 c hc;omega
noncomputable def one (n:Nat) (s:List Nat) (rest:List (List Nat)):Bool:=
 upB s && (s.head? == some 0) && s.all (fun p=>decide (p<n)) && (List.range n).all (fun p=>s.contains p || rest.contains (ins p s)) && ((s.length == n) == (left n s).isEmpty) && decide (s.length≤n) && !rest.contains s
noncomputable def chk (n:Nat):List (List Nat)→Bool
 | []=>true
 | s :: rest=>one n s rest && chk n rest
theorem aDq:∀ k,k<8→chk (k+1) (aV k)=true:=by decide +kernel
theorem aBm {n:Nat}:∀ {P:List (List Nat)} {j:Nat} {s:List Nat},chk n P=true→P[j]?=some s→one n s (P.drop (j+1))=true
 | [],_,_,_,h=>by cases h
 | q :: P,0,s,c,h=>by
  unfold chk at c
  rw [Bool.and_eq_true] at c
  obtain rfl:q=s:=by simpa using h
  simpa using c.1
 | q :: P,j+1,s,c,h=>by
  unfold chk at c
  rw [Bool.and_eq_true] at c
  simpa using aBm (j:=j) c.2 (by simpa using h)
structure oD (n:Nat)(s:List Nat)(rest:List (List Nat)):Prop where
 up:s.Pairwise (· < ·)
 zero:∃ r,s=0 :: r
 lt:∀ p∈s,p<n
 next:∀ p,p<n→p∉s→ins p s∈rest
 full:s.length=n↔left n s=[]
 le:s.length≤n
 new:s∉rest
theorem aCU {n:Nat}{s:List Nat}{rest:List (List Nat)}(h:one n s rest=true):oD n s rest:=by
 unfold one at h
 simp only [Bool.and_eq_true,Bool.not_eq_true',List.all_eq_true,decide_eq_true_eq,beq_iff_eq,Bool.or_eq_true,List.mem_range,List.contains_eq_mem] at h
 obtain ⟨⟨⟨⟨⟨⟨h1,h2⟩,h3⟩,h4⟩,h5⟩,h6⟩,h7⟩:=h
 refine ⟨aDw h1,?_,h3,fun p hp hs=>(h4 p hp).resolve_left hs,?_,h6,of_decide_eq_false h7⟩
 ·cases s with
  | nil=>simp at h2
  | cons a r=>exact ⟨r,by simpa using h2⟩
 ·rw [← List.isEmpty_iff,← h5]
  simp
theorem mP {n j:Nat}{s:List Nat}(h1:1≤n)(h8:n≤8)(h:(aV (n - 1))[j]?=some s):oD n s ((aV (n - 1)).drop (j+1)):=by
 have c:=aDq (n - 1) (by omega)
 rw [show n - 1+1=n by omega] at c
 exact aCU (aBm c h)
theorem uR {n:Nat}{s:List Nat}{rest:List (List Nat)}(ok:oD n s rest):(jL s).Nodup∧(∀ l∈jL s,l∈s)∧((∃ r,s=0 :: r)→(s=[0]∧jL s=[0])∨(∀ l,l∈jL s↔l∈s∧l≠0)):=by
 obtain ⟨r,rfl⟩:=ok.zero
 have nd:(0 :: r).Nodup:=ok.up.imp (fun h=>Nat.ne_of_lt h)
 unfold jL
 cases r with
 | nil=>exact ⟨by simp,by simp,fun _ => .inl ⟨rfl,by simp⟩⟩
 | cons a r=>
  have e:(0 :: a :: r).tail.isEmpty=false:=rfl
  rw [e]
  simp only [Bool.false_eq_true,if_false,List.tail_cons]
  refine ⟨(List.nodup_cons.mp nd).2,fun l hl=>List.mem_cons_of_mem _ hl,fun _ => .inr fun l=>⟨fun h=>⟨List.mem_cons_of_mem _ h,fun e=>?_⟩,fun h=>?_⟩⟩
  ·subst e;exact (List.nodup_cons.mp nd).1 h
  ·rcases List.mem_cons.mp h.1 with e | h'
   ·exact absurd e h.2
   ·exact h'
noncomputable abbrev Ky:=List Nat × Nat
noncomputable def fB (s:List Nat):List Ky:=(jL s).map fun l=>(s,l)
noncomputable def eB (P:List (List Nat)):List Ky:=P.reverse.flatMap fB
noncomputable def aAH (n:Nat):List Ky:=eB (aV (n - 1))
theorem fY {P:List (List Nat)}{k:Ky}:k∈eB P↔k.1∈P∧k.2∈jL k.1:=by
 unfold eB fB
 rw [List.mem_flatMap]
 constructor
 ·rintro ⟨s,hs,h⟩
  obtain ⟨l,hl,rfl⟩:=List.mem_map.mp h
  exact ⟨List.mem_reverse.mp hs,hl⟩
 ·rintro ⟨h1,h2⟩
  exact ⟨k.1,List.mem_reverse.mpr h1,List.mem_map.mpr ⟨k.2,h2,rfl⟩⟩
theorem uU {s:List Nat}{P:List (List Nat)}:eB (s :: P)=eB P++fB s:=by
 unfold eB;rw [List.reverse_cons,List.flatMap_append];simp
theorem uE {n:Nat}{s:List Nat}{rest:List (List Nat)}{p:Nat}(h1:1≤n)(h8:n≤8)(ok:oD n s rest)(hr:∀ q∈rest,q∈aV (n - 1))(hp:p∈left n s):(ins p s,p)∈eB rest:=by
 obtain ⟨hn,hs⟩:=iO.mp hp
 refine fY.mpr ⟨ok.next p hn hs,?_⟩
 obtain ⟨j,hj⟩:=List.mem_iff_getElem?.mp (hr _ (ok.next p hn hs))
 have ok':=mP h1 h8 hj
 obtain ⟨r,hr0⟩:=ok.zero
 have p0:p≠0:=fun e=>hs (by rw [e,hr0];exact List.mem_cons_self ..)
 rcases (uR ok').2.2 ok'.zero with ⟨e,_⟩ | h
 ·have:p∈[0]:=by rw [← e];exact jV.mpr (.inl rfl)
  exact absurd (List.mem_singleton.mp this) p0
 ·exact (h p).mpr ⟨jV.mpr (.inl rfl),p0⟩
noncomputable def aBe:List Int→Int
 | []=>0
 | a :: l=>l.foldl min a
theorem mQ:∀ {l:List Int} {a:Int},(l.foldl min a)∈a :: l∧∀ x∈a :: l,l.foldl min a≤x
 | [],a=>⟨List.mem_cons_self ..,fun x hx=>by rw [List.mem_singleton.mp hx];exact Int.le_refl _⟩
 | b :: l,a=>by
  obtain ⟨h1,h2⟩:=mQ (l:=l) (a:=min a b)
  rw [List.foldl_cons]
  refine ⟨?_,fun x hx=>?_⟩
  ·rcases List.mem_cons.mp h1 with e | h
   ·rw [e]
    by_cases c:a≤b
    ·rw [Int.min_eq_left c];exact List.mem_cons_self ..
    ·rw [Int.min_eq_right (by omega)];exact List.mem_cons_of_mem _ (List.mem_cons_self ..)
   ·exact List.mem_cons_of_mem _ (List.mem_cons_of_mem _ h)
  ·have h0:=h2 (min a b) (List.mem_cons_self ..)
   have m1:min a b≤a:=Int.min_le_left a b
   have m2:min a b≤b:=Int.min_le_right a b
   rcases List.mem_cons.mp hx with e | hx
   ·omega
   ·rcases List.mem_cons.mp hx with e | hx
    ·omega
    ·exact h2 x (List.mem_cons_of_mem _ hx)
theorem aAe {l:List Int}(h:l≠[]):aBe l∈l:=by
 cases l with
 | nil=>exact absurd rfl h
 | cons a l=>exact mQ.1
theorem xM {l:List Int}{x:Int}(h:x∈l):aBe l≤x:=by
 cases l with
 | nil=>cases h
 | cons a l=>exact mQ.2 x h
theorem yV {l:List Int}{x:Int}(h:x∈l)(hx:∀ y∈l,x≤y):aBe l=x:=Int.le_antisymm (xM h) (hx _ (aAe (List.ne_nil_of_mem h)))
noncomputable def R (t:Nat→Nat→Int) (n:Nat):Nat→List Nat→Nat→Int
 | 0,_,l=>t l 0
 | m+1,s,l=>aBe ((left n s).map fun p=>t l p+R t n m (ins p s) p)
noncomputable def rest (t:Nat→Nat→Int) (n:Nat) (k:Ky):Int:=R t n (n - k.1.length) k.1 k.2
section
variable {t:Nat→Nat→Int}{n:Nat}
theorem qE {s:List Nat}{l:Nat}(h:s.length=n):rest t n (s,l)=t l 0:=by
 unfold rest;rw [show n - s.length=0 by omega];rfl
theorem rA {s:List Nat}{l:Nat}(h:s.length<n):rest t n (s,l)=aBe ((left n s).map fun p=>t l p+rest t n (ins p s,p)):=by
 unfold rest
 obtain ⟨m,hm⟩:∃ m,n - s.length=m+1:=⟨n - s.length - 1,by omega⟩
 show R t n (n - s.length) s l=_
 rw [hm]
 show aBe _=_
 congr 1
 apply List.map_congr_left
 intro p _
 show _=t l p+R t n (n - (ins p s).length) (ins p s) p
 rw [yR,show n - (s.length+1)=m by omega]
end
end K60.S
namespace K60.S
open PySem L2
section
variable {t t':Nat→Nat→Int}{n:Nat}
end
end K60.S
namespace K60.S
open PySem L2
noncomputable abbrev ic (s:List Nat):List Int:=s.map fun p:Nat=>(p:Int)
theorem uO {s:List Nat}{p:Nat}:ic s++[(p:Int)]=ic (s++[p]):=by unfold ic;rw [List.map_append];rfl
noncomputable def kc (k:Ky):PKy:=(ic k.1,(k.2:Int))
theorem aCW {a b:List Nat}(h:ic a=ic b):a=b:=List.map_inj_right (fun x y e=>by exact Int.ofNat.inj e) |>.mp h
theorem aBa {a b:Ky}(h:kc a=kc b):a=b:=by
 unfold kc at h
 injection h with h1 h2
 exact Prod.ext (aCW h1) (by omega)
section
variable {K:PySem.W.Frag}{vars:List Nat}{tb:TS}{acc:Addr}{σ:St}{H:Hp}
theorem aAr {ta:TA}{r:List Int}(hr:r.length≤100)(h:∀ Q:List V→Hp→Prop,(∀ H',Same H H'→Q (r.map V.int) H')→ta σ H Q):EmR K vars (dO (rR ta) acc) acc σ H [r]:=by
 intro D pre R ha hR hz hd
 refine h _ fun H1 s1=>⟨by rw [List.length_map];exact Nat.le_trans hr (by decide),fun t ht=>?_⟩
 have st:=aH ht (.tup (r.map V.int))
 have ha':=st _ _ (s1 _ _ ha)
 refine ⟨pre,ha',Nat.lt_of_le_of_lt (show pre.length≤100000 by rw [hR.1];omega) (by decide),?_⟩
 exact hd σ _ _ rfl (Agree.refl _ _) ((s1.trans st).x.trans (SameX.put _)) aD (Rows.snoc (Rows.put (hR.same (s1.trans st)) ha') (sN (.of aD) ha'))
theorem aAP {a:Addr}{xs:List V}{j:Nat}{L:Nat→List (List Int)}(hj:j∈vars)(hjl:j<σ.length)(hs:∀ H',SameX acc H H'→SqL K H' a xs)
  (h:∀ i x σ' H',xs[i]?=some x→σ'.length=σ.length→Agree vars σ σ'→σ'[j]?=some (some x)→SameX acc H H'→EmR K vars tb acc σ' H' (L i)) :
  EmR K vars (fK (Itl K a) (aN j) tb) acc σ H ((List.range xs.length).flatMap L):=by
 intro D pre R ha hR hz hd
 refine oW (K:=K) (a:=a) (xs:=xs) (g:=aN j) (D:=D) (fun i σ' H'=>i≤xs.length∧σ'.length=σ.length∧Agree vars σ σ'∧SameX acc H H'∧∃ pre',H' acc=some (.lst pre')∧Rows K H' pre' (R++(List.range i).flatMap L)) ⟨Nat.zero_le _,rfl,Agree.refl _ _,SameX.refl _ _,pre,ha,by simpa using hR⟩ (fun i σ1 H1 _ ⟨_,_,_,sx,_⟩=>hs H1 sx) (fun i x σ1 H1 hx ⟨_,hl1,ag1,sx1,pre1,h1,r1⟩=>?_) fun σ1 H1 ⟨_,hl1,ag1,sx1,pre1,h1,r1⟩=>hd σ1 H1 pre1 hl1 ag1 sx1 h1 r1
 have hi:i<xs.length:=(List.getElem?_eq_some_iff.mp hx).1
 have hle:=cD L (show i+1≤xs.length from hi)
 rw [aL,List.length_append] at hle
 refine h i x (σ1.set j (some x)) H1 hx (by rw [List.length_set];exact hl1) (ag1.trans (Agree.set hj _)) (kM (by omega)) sx1 _ pre1 _ h1 r1 (by rw [List.length_append];omega) fun σ' H' pre' hl ag sx h2 r2=>⟨hi,hl.trans ((List.length_set ..).trans hl1),(ag1.trans (Agree.set hj _)).trans ag,sx1.trans sx,pre',h2,by rw [aL,← List.append_assoc];exact r2⟩
end
theorem aCo {α:Type}(c:Nat→Bool)(g:Nat→α)(n:Nat):((List.range n).flatMap fun i=>if c i=true then [g i] else [])=((List.range n).filter c).map g:=by
 induction n with
 | zero=>rfl
 | succ n ih=>
  rw [aL,List.range_succ,List.filter_append,List.map_append,ih]
  congr 1
  cases h:c n <;> simp [List.filter,h]
theorem jI {α β:Type}(l:List α)(g:α→β)(L:Nat→List β)(h:∀ i x,l[i]?=some x→L i=[g x]):(List.range l.length).flatMap L=l.map g:=by
 have key:∀ k,k≤l.length→(List.range k).flatMap L=(l.take k).map g:=fun k=>by
  induction k with
  | zero=>intro _;rfl
  | succ k ih=>
   intro hk
   have e:l[k]?=some l[k]:=List.getElem?_eq_getElem (by omega)
   rw [aL,ih (by omega),h k _ e,List.take_add_one,e,List.map_append]
   rfl
 rw [key _ (Nat.le_refl _),List.take_length]
theorem aBq {p:Nat}:∀ {s:List Nat},inV (.int (p:Int)) ((ic s).map V.int)=s.contains p
 | []=>rfl
 | a :: s=>by
  show (eqV (.int (a:Int)) (.int (p:Int)) || inV (.int (p:Int)) ((ic s).map V.int))=_
  rw [aBq,List.contains_cons]
  congr 1
  show (decide ((a:Int)=(p:Int)):Bool)=(p == a)
  by_cases h:a=p
  ·subst h;simp
  ·rw [decide_eq_false (by omega),beq_eq_false_iff_ne.mpr (Ne.symm h)]
theorem aBV {s:List Nat}:((ic s).map V.int).all oS=true:=by
 rw [List.all_eq_true]
 intro x hx
 obtain ⟨n,_,rfl⟩:=List.mem_map.mp hx
 rfl
section
variable {K:PySem.W.Frag}
noncomputable def spJoin (K:PySem.W.Frag):Sp:=fun vs H Q _=>∃ (a:Addr) (s:List Nat) (p:Nat),vs=[.ref a, .int (p:Int)]∧SqT K H a ((ic s).map V.int)∧s.Pairwise (· < ·)∧p∉s∧s≠[]∧s.length≤20∧∀ b H',Same H H'→H' b=some (.tup ((ic (ins p s)).map V.int))→Q (.ref b) H'
theorem aEG {s:List Nat}(h:s.Pairwise (· < ·)):(ic s).Pairwise (·≤·):=List.pairwise_map.mpr (h.imp fun q=>by omega)
theorem yJ {s:List Nat}{ms ns:List Int}(hp:ms.Perm ns)(hs:ms.Pairwise (·≤·))(hn:ns.Perm (ic s))(h:s.Pairwise (· < ·)):ms=ic s:=
 List.Perm.eq_of_pairwise (le:=(·≤·)) (fun a b _ _ h1 h2=>Int.le_antisymm h1 h2) hs (aEG h) (hp.trans hn)
theorem rd_join:∀ vs H Q E,spJoin K vs H Q E→tR K { nx:=fun _ H'=>Q .non H',rt:=Q } (bB ["some","place"] vs) H:=by
 intro vs H Q E h
 obtain ⟨a,s,p,rfl,ha,up,hp,hne,hl,q⟩:=h
 refine ⟨_,rfl,_,rfl,by show 1≤sizeLine;decide,fun c hc=>?_⟩
 have s1:=aH hc (.tup [V.int (p:Int)])
 have hz:((ic s).map V.int).length=s.length:=by rw [List.length_map,List.length_map]
 refine .inr ⟨a,c,_,_,rfl,rfl,s1.tup ha, .of aD,by rw [hz];exact Nat.le_trans (show s.length+1≤21 by omega) (by decide),fun r H2 _ hr s2=>?_⟩
 have e:(ic s).map V.int++[V.int (p:Int)]=(ic s++[(p:Int)]).map V.int:=by rw [List.map_append];rfl
 rw [e] at hr
 refine ⟨r,_,rfl, .inr hr,by rw [uO,List.length_map,List.length_append];show s.length+1<64;omega,fun ms h1 h2 l hl=>?_⟩
 obtain rfl:ms=ic (ins p s):=yJ h1 h2 (by rw [uO];exact (jB.map _).symm) (aBz up hp)
 refine ⟨l,_,rfl, .inl ⟨.of aD,fun b hb=>?_⟩⟩
 exact q b _ (s1.trans (s2.trans ((aH hl _).trans (aH hb _)))) aD
noncomputable def spLeft (K:PySem.W.Frag):Sp:=fun vs H Q _=>∃ (v:V) (T:List (List Int)) (n:Nat) (a:Addr) (s:List Nat),vs=[v, .ref a]∧Sh K H (mG T) v∧Quad T n∧n≤9∧SqT K H a ((ic s).map V.int)∧∀ l H',Same H H'→H' l=some (.lst ((ic (left n s)).map V.int))→Q (.ref l) H'
theorem rd_left:∀ vs H Q E,spLeft K vs H Q E→iS K { nx:=fun _ H'=>Q .non H',rt:=Q } (bB ["table","some"] vs) H:=by
 intro vs H Q E h
 obtain ⟨v,T,n,a,s,rfl,hT,qT,h9,ha,q⟩:=h
 obtain ⟨ta,rs,rfl,hta,hrl,_⟩:=hT.tab
 have hrn:rs.length=n:=by rw [hrl,qT.len]
 refine ⟨_,rfl,ta,rs,rfl, .inr hta,(n:Int),by rw [hrn],by omega,by omega,fun l hl=>?_⟩
 rw [Int.toNat_natCast]
 refine fE [0] ((ic (left n s)).map V.int) hl ?_ (Emits.cast (nN (L:=fun i=>if (!s.contains i)=true then [bX i] else []) (by decide) (by show 0<2;decide) fun i σ1 H1 hi hl1 ag1 s1 sx1 _=>?_) ?_) fun σ1 H1 sm h1=>q l H1 sm h1
 ·rw [List.length_map,List.length_map]
  have:=List.length_filter_le (fun p=>!s.contains p) (List.range n)
  rw [List.length_range] at this
  unfold left
  omega
 ·have s0:σ1[0]?=some (some (.int (i:Int))):=by rw [s1];simp
  have s2:σ1[1]?=some (some (.ref a)):=(ag1 1 (by decide)).trans rfl
  have ha1:=(cE hl sx1).tup ha
  refine zQ (fun _ _=>trivial) (fun Q hq=>⟨_,s0,_,s2,a,_,rfl, .inr ha1,rfl,aBV,_,rfl,?_⟩) fun hc H2 e2=>iN fun Q hq=>⟨_,s0,hq _ (Same.refl _)⟩
  show Q (!inV (.int (i:Int)) ((ic s).map V.int)) H1
  rw [aBq]
  exact hq _ (Same.refl _)
 ·rw [aCo]
  unfold left ic bX
  rw [List.map_map];rfl
noncomputable def DPk (H:Hp) (d:Addr) (xs:PEs) (ep:Nat) (ks:List Ky) (f:Ky→Int):Prop:=DP H d xs ep∧xs.map (fun x=>(x.1,x.2.2))=ks.map fun k=>(kc k,V.int (f k))
theorem DP.same {H H':Hp}{d:Addr}{xs:PEs}{ep:Nat}(h:DP H d xs ep)(s:Same H H'):DP H' d xs ep:=⟨s _ _ h.1,fun x hx=>let ⟨b,e1,e2⟩:=h.2 x hx;⟨b,s _ _ e1,s _ _ e2⟩⟩
theorem DPk.same {H H':Hp}{d:Addr}{xs:PEs}{ep:Nat}{ks:List Ky}{f:Ky→Int}(h:DPk H d xs ep ks f)(s:Same H H'):DPk H' d xs ep ks f:=⟨DP.same h.1 s,h.2⟩
theorem vW {f:Ky→Int}{k:Ky}:∀ {ks:List Ky} {xs:PEs},xs.map (fun x=>(x.1,x.2.2))=ks.map (fun k=>(kc k,V.int (f k)))→k∈ks→vQ xs (kc k)=some (.int (f k))
 | [],_,_,h=>by cases h
 | k' :: ks,[],e,_=>by cases e
 | k' :: ks,x :: xs,e,h=>by
  rw [List.map_cons,List.map_cons] at e
  injection e with e1 e2
  injection e1 with e3 e4
  unfold vQ
  rw [List.find?_cons]
  by_cases hk:k'=k
  ·subst hk
   rw [decide_eq_true e3]
   show some x.2.2=_
   rw [e4]
  ·rw [decide_eq_false (fun z=>hk (aBa (e3.symm.trans z)))]
   have:=vW (k:=k) e2 ((List.mem_cons.mp h).resolve_left (Ne.symm hk))
   unfold vQ at this
   exact this
theorem aBB {f:Ky→Int}{k:Ky}:∀ {ks:List Ky} {xs:PEs},xs.map (fun x=>(x.1,x.2.2))=ks.map (fun k=>(kc k,V.int (f k)))→k∉ks→vQ xs (kc k)=none
 | [],[],_,h=>rfl
 | [],_ :: _,e,_=>by cases e
 | k' :: ks,[],e,_=>by cases e
 | k' :: ks,x :: xs,e,h=>by
  rw [List.map_cons,List.map_cons] at e
  injection e with e1 e2
  injection e1 with e3 e4
  unfold vQ
  rw [List.find?_cons,decide_eq_false (fun z=>h (by rw [aBa (e3.symm.trans z)];exact List.mem_cons_self ..))]
  have:=aBB (k:=k) e2 fun z=>h (List.mem_cons_of_mem _ z)
  unfold vQ at this
  exact this
structure Tb (K:PySem.W.Frag)(H:Hp)(v:V)(T:List (List Int))(n:Nat):Prop where
 sh:Sh K H (mG T) v
 quad:Quad T n
 one:1≤n
 most:n≤8
theorem Tb.same {H H':Hp}{v:V}{T:List (List Int)}{n:Nat}(h:Tb K H v T n)(s:Same H H'):Tb K H' v T n:=⟨h.sh.same s,h.quad,h.one,h.most⟩
noncomputable def spOnw (K:PySem.W.Frag):Sp:=fun vs H Q _=>∃ (v:V) (T:List (List Int)) (n:Nat) (d a:Addr) (xs:PEs) (ep:Nat) (ks:List Ky) (f:Ky→Int) (s:List Nat) (l:Nat),vs=[v, .ref d, .ref a, .int (l:Int)]∧Tb K H v T n∧DPk H d xs ep ks f∧SqT K H a ((ic s).map V.int)∧s.Pairwise (· < ·)∧s≠[]∧s.length≤20∧l<n∧(∀ p∈left n s,(ins p s,p)∈ks) ∧
 ∀ r pre H',Same H H'→H' r=some (.lst pre)→Rows K H' pre ((left n s).map fun p=>[at2 T l p+f (ins p s,p),(p:Int)])→Q (.ref r) H'
theorem rd_onw:∀ vs H Q E,spOnw K vs H Q E→uB K (spJoin K) (spLeft K) { nx:=fun _ H'=>Q .non H',rt:=Q } (bB ["table","rests","some","last"] vs) H:=by
 intro vs H Q E h
 obtain ⟨v,T,n,d,a,xs,ep,ks,f,s,l,rfl,tb,dp,ha,up,hne,h20,hl,hks,q⟩:=h
 refine ⟨_,rfl,_,rfl,v,T,n,a,s,rfl,tb.sh,tb.quad,by have:=tb.most;omega,ha,fun c H1 s1 hc=>⟨c,rfl, .inl ⟨⟨_, .of hc⟩,fun r hr=>?_⟩⟩⟩
 have lz:((ic (left n s)).map V.int).length=(left n s).length:=by rw [List.length_map,List.length_map]
 have ll:(left n s).length≤8:=by
  have:=List.length_filter_le (fun p=>!s.contains p) (List.range n)
  rw [List.length_range] at this
  have:=tb.most
  unfold left
  omega
 refine zU [0] _ hr (by rw [List.length_map];omega) (EmR.cast (aAP (xs:=(ic (left n s)).map V.int) (L:=fun i=>[[at2 T l ((left n s).getD i 0)+f (ins ((left n s).getD i 0) s,(left n s).getD i 0),(((left n s).getD i 0:Nat):Int)]]) (by decide) (by show 0<5;decide) (fun H' sx=>(cE hr sx).seq (.of hc)) fun i x σ1 H2 hx hl1 ag1 st sx=>?_) ?_) fun σ1 H2 pre sm h2 h3=>q r pre H2 (s1.trans sm) h2 h3
 ·have sm:=s1.trans (cE hr sx)
  rw [List.map_map,List.getElem?_map] at hx
  obtain ⟨p,hp,rfl⟩:=Option.map_eq_some_iff.mp hx
  have ep':(left n s).getD i 0=p:=by rw [List.getD_eq_getElem?_getD,hp];rfl
  rw [ep']
  obtain ⟨hpn,hps⟩:=iO.mp (List.mem_of_getElem? hp)
  have z1:σ1[1]?=some (some v):=(ag1 1 (by decide)).trans rfl
  have z2:σ1[2]?=some (some (.int (l:Int))):=(ag1 2 (by decide)).trans rfl
  have z3:σ1[3]?=some (some (.ref d)):=(ag1 3 (by decide)).trans rfl
  have z4:σ1[4]?=some (some (.ref a)):=(ag1 4 (by decide)).trans rfl
  refine aAr (by show 2≤100;decide) fun Q2 hq=>?_
  have tb2:=tb.same sm
  refine aAZ z1 z2 st tb2.sh tb2.quad hl hpn ?_
  refine ⟨_,z3,_,z4,_,st,a,s,p,rfl,sm.tup ha,up,hps,hne,h20,fun b H3 s3 hb=>?_⟩
  refine ⟨_,st,by show 2≤sizeLine;decide,fun g hg=>?_⟩
  have s4:=aH hg (.tup [V.ref b,V.int (p:Int)])
  refine ⟨d,g,xs,ep,kc (ins p s,p),_,rfl,rfl,(dp.same (sm.trans (s3.trans s4))).1,⟨b, .of aD, .of (s4 _ _ hb)⟩,vW dp.2 (hks p (List.mem_of_getElem? hp)),?_⟩
  dsimp only [bD]
  exact ⟨_,st,hq _ (s3.trans s4)⟩
 ·rw [lz]
  exact jI _ _ _ fun i x hx=>by rw [List.getD_eq_getElem?_getD,hx];rfl
end
end K60.S
namespace K60.S
open PySem L2
noncomputable def Tups (H:Hp) (pre:List V) (P:List (List Nat)):Prop:=pre.length=P.length∧∀ (i:Nat) (s:List Nat),P[i]?=some s→∃ b,pre[i]?=some (.ref b)∧H b=some (.tup ((ic s).map V.int))
theorem Tups.same {H H':Hp}{pre:List V}{P:List (List Nat)}(h:Tups H pre P)(s:Same H H'):Tups H' pre P:=⟨h.1,fun i q e=>let ⟨b,e1,e2⟩:=h.2 i q e;⟨b,e1,s _ _ e2⟩⟩
theorem Tups.x {H H':Hp}{pre:List V}{P:List (List Nat)}{d:Addr}{o:HO}(h:Tups H pre P)(hd:H d=some o)(ho:∀ xs,o ≠ .tup xs)(s:SameX d H H'):Tups H' pre P:=
 ⟨h.1,fun i q e=>let ⟨b,e1,e2⟩:=h.2 i q e;⟨b,e1,s _ _ (fun z=>by subst z;rw [hd] at e2;exact ho _ (Option.some.inj e2)) e2⟩⟩
theorem Tups.nil {H:Hp}:Tups H [] []:=⟨rfl,fun i s e=>by cases e⟩
theorem zJ {α:Type}{l m:List α}{i:Nat}{x:α}(h:(l++m)[i]?=some x):(i<l.length∧l[i]?=some x)∨(l.length≤i∧m[i - l.length]?=some x):=by
 by_cases hi:i<l.length
 ·exact .inl ⟨hi,by rw [List.getElem?_append_left hi] at h;exact h⟩
 ·exact .inr ⟨by omega,by rw [List.getElem?_append_right (by omega)] at h;exact h⟩
theorem Tups.app {H:Hp}{pre pre':List V}{P P':List (List Nat)}(h:Tups H pre P)(h':Tups H pre' P'):Tups H (pre++pre') (P++P'):=by
 refine ⟨by rw [List.length_append,List.length_append,h.1,h'.1],fun i s e=>?_⟩
 rcases zJ e with ⟨hi,e⟩ | ⟨hi,e⟩
 ·obtain ⟨b,e1,e2⟩:=h.2 i s e
  exact ⟨b,by rw [List.getElem?_append_left (by rw [h.1];exact hi)];exact e1,e2⟩
 ·obtain ⟨b,e1,e2⟩:=h'.2 _ s e
  exact ⟨b,by rw [List.getElem?_append_right (by rw [h.1];exact hi),h.1];exact e1,e2⟩
theorem Tups.one {H:Hp}{b:Addr}{s:List Nat}(h:H b=some (.tup ((ic s).map V.int))):Tups H [.ref b] [s]:=⟨rfl,fun i q e=>by
 match i,e with
 | 0,e=>
  obtain rfl:s=q:=by simpa using e
  exact ⟨b,rfl,h⟩⟩
theorem qC:∀ k,(aV k).length=2 ^ k
 | 0=>rfl
 | k+1=>by
  show (aV k++(aV k).map (· ++ [k+1])).length=_
  rw [List.length_append,List.length_map,qC k,Nat.pow_succ];omega
theorem uS {k:Nat}(h:k<8):(aV k).length≤128:=by
 rw [qC]
 exact Nat.le_trans (Nat.pow_le_pow_right (by decide) (show k≤7 by omega)) (by decide)
theorem yU {i j:Int}:eqD (.int i) (.int j)=decide (i=j):=by rw [eqD];rfl
section
variable {K:PySem.W.Frag}
theorem uM {H H':Hp}{p:Addr}{o:HO}(h:H p=none)(s:Same H H'):Same H (upd H' p o):=fun b u e=>by rw [aP (aM e h)];exact s _ _ e
theorem lH {H H':Hp}{a b p:Addr}{xs ys:List V}(hx:xs≠[])(hy:ys≠[])(h:(p=a∧H'=H∧ys=[])∨(p=b∧H'=H∧xs=[])∨(H p=none∧H'=upd H p (.tup (xs++ys)))):H' p=some (.tup (xs++ys)):=by
 rcases h with ⟨_,_,e⟩ | ⟨_,_,e⟩ | ⟨_,e⟩
 ·exact absurd e hy
 ·exact absurd e hx
 ·rw [e];exact aD
noncomputable def spParts:Sp:=fun vs H Q _=>∃ n:Nat,vs=[.int (n:Int)]∧1≤n∧n≤8∧∀ l pre H',Same H H'→H' l=some (.lst pre)→Tups H' pre (aV (n - 1))→Q (.ref l) H'
theorem rd_parts:∀ vs H Q E,spParts vs H Q E→eX K { nx:=fun _ H'=>Q .non H',rt:=Q } (bB ["many","parts","place"] vs) H:=by
 intro vs H Q E h
 obtain ⟨n,rfl,h1,h8,q⟩:=h
 refine ⟨by show 1≤sizeLine;decide,fun c hc=>⟨by show 1≤sizeLine;decide,fun l hl=>?_⟩⟩
 have s0:=(aH hc (.tup [V.int 0])).trans (aH hl (.lst [.ref c]))
 have hl0:upd (upd H c (.tup [V.int 0])) l (.lst [.ref c]) l=some (.lst [.ref c]):=aD
 have t0:Tups (upd (upd H c (.tup [V.int 0])) l (.lst [.ref c])) [.ref c] (aV 0):=Tups.one ((aH hl _) _ _ aD)
 show aS _ _ _ _ (upd (upd H c (.tup [V.int 0])) l (.lst [.ref c]))
 generalize upd (upd H c (.tup [V.int 0])) l (.lst [.ref c])=H0 at s0 hl0 t0 ⊢
 refine ⟨_,rfl,1,(n:Int),rfl,⟨by omega,by omega,by omega,by omega⟩,?_⟩
 rw [show ((n:Int) - 1).toNat=n - 1 by omega]
 refine dY (lo:=1) (n:=n - 1) (fun i σ' H'=>∃ l pre x,σ'=[some (.int (n:Int)),some (.ref l),x]∧H' l=some (.lst pre)∧Tups H' pre (aV i)∧Same H H') ⟨l,_,none,rfl,hl0,t0,s0⟩ (fun i σ1 H1 hi ⟨l,pre,x,e1,hl,ht,s1⟩=>?_) fun σ1 H1 ⟨l,pre,x,e1,hl,ht,s1⟩=>?_
 ·subst e1
  have hi8:i<8:=by omega
  refine ⟨_,rfl,_,rfl,l,rfl, .inl ⟨⟨_, .of hl⟩,fun acc ha=>?_⟩⟩
  refine pX (vars:=[0]) (xs:=pre) (fun i' L H'=>Tups H' L (((aV i).take i').map (· ++ [i+1]))) (by decide) (by show 0<2;decide) Tups.nil ha (fun i' L H' sm _ => .of (sm _ _ hl)) (fun i' y σ2 H2 L D hy hl2 ag2 st2 sm2 ha2 r2 hD=>?_) fun σ2 H2 L sm2 ha2 r2=>?_
  ·have hi':i'<(aV i).length:=by rw [← ht.1];exact (List.getElem?_eq_some_iff.mp hy).1
   obtain ⟨b,e1,e2⟩:=ht.2 i' _ (List.getElem?_eq_getElem hi')
   rw [hy] at e1
   cases e1
   have hb:=sm2 _ _ e2
   have ok:oD (i+1) ((aV i)[i']) _:=mP (n:=i+1) (j:=i') (by omega) (by omega) (List.getElem?_eq_getElem hi')
   obtain ⟨r,hr⟩:=ok.zero
   have hle:=ok.le
   have es:(aV i)[i']?=some ((aV i)[i']):=List.getElem?_eq_getElem hi'
   generalize (aV i)[i']=s at hb hr es hle
   have z1:σ2[1]?=some (some (.int (1+(i:Int)))):=(ag2 1 (by decide)).trans rfl
   have hn:(ic s).map V.int≠[]:=by rw [hr];simp
   refine ⟨_,st2,_,z1,by show 1≤sizeLine;decide,fun c hc => .inr ⟨b,c,_,_,rfl,rfl, .of ((aH hc _) _ _ hb), .of aD,?_,fun p H3 hcase _ s3=>?_⟩⟩
   ·rw [List.length_map,List.length_map];exact Nat.le_trans (show s.length+1≤10 by omega) (by decide)
   have hp:=lH hn (by simp) hcase
   have sm3:=(aH hc (.tup [V.int (1+(i:Int))])).trans s3
   have ha3:=sm3 _ _ ha2
   refine ⟨L,ha3,?_,?_⟩
   ·rw [r2.1,List.length_map,List.length_take]
    have:=uS hi8
    exact Nat.lt_of_le_of_lt (show min i' (aV i).length≤128 by omega) (by decide)
   have e2:(ic s).map V.int++[V.int (1+(i:Int))]=(ic (s++[i+1])).map V.int:=by
    rw [← uO,List.map_append]
    show _++[V.int (1+(i:Int))]=_++[V.int ((i+1:Nat):Int)]
    rw [show (1:Int)+(i:Int)=((i+1:Nat):Int) by omega]
   rw [e2] at hp
   refine hD _ _ _ hl2 ag2 (uM ha (sm2.trans sm3)) aD ?_
   have tt:Tups H3 (L++[.ref p]) ((((aV i).take (i'+1)).map (· ++ [i+1]))):=by
    rw [List.take_add_one,es,List.map_append]
    exact (r2.same sm3).app (Tups.one hp)
   exact tt.x ha3 (fun _ z=>by cases z) (SameX.put _)
  ·have hl2:=sm2 _ _ hl
   have hz:(aV i).length≤128:=uS hi8
   rw [ht.1,List.take_length] at r2
   refine .inl ⟨l,acc,pre,L,rfl,rfl,hl2,ha2,?_,fun p hp=>?_⟩
   ·rw [ht.1,r2.1,List.length_map]
    exact Nat.le_trans (show (aV i).length+(aV i).length≤256 by omega) (by decide)
   ·exact ⟨p,_,_,rfl,aD,((ht.same sm2).app r2).same (aH hp _),s1.trans (sm2.trans (aH hp _))⟩
 ·subst e1
  exact ⟨_,rfl,q l pre H1 s1 hl ht⟩
end
end K60.S
namespace K60.S
open PySem L2
theorem aBo {a b:Int}{r q:List Int}(h:nH (a :: r) (b :: q)=false):b≤a:=by
 unfold nH at h
 by_cases e:a=b
 ·omega
 ·rw [if_neg e] at h
  have:=of_decide_eq_false h
  omega
theorem nV:∀ k,k<8→(eB (aV k)).length≤1000:=by decide +kernel
theorem yA {A B:List (List Nat)}:eB (A++B)=eB B++eB A:=by unfold eB;rw [List.reverse_append,List.flatMap_append]
theorem uY {P:List (List Nat)}{m:Nat}:(eB (P.drop m)).length≤(eB P).length:=by
 have e:eB P=eB (P.drop m)++eB (P.take m):=by rw [← yA,List.take_append_drop]
 rw [e,List.length_append];omega
section
variable {K:PySem.W.Frag}
theorem pR {H H':Hp}{a d:Addr}{xs:List V}{o:HO}(h:SqT K H a xs)(hd:H d=some o)(h1:∀ ys,o ≠ .tup ys)(h2:∀ q u,o ≠ .frz q u)(s:SameX d H H'):SqT K H' a xs:=by
 rcases h with (h | ⟨u,h⟩) | h
 ·exact .inl (.inl (s _ _ (fun z=>by subst z;rw [hd] at h;exact h1 _ (Option.some.inj h)) h))
 ·exact .inl (.inr ⟨u,s _ _ (fun z=>by subst z;rw [hd] at h;exact h2 _ _ (Option.some.inj h)) h⟩)
 ·exact .inr h
theorem DPk.len {H:Hp}{d:Addr}{xs:PEs}{ep:Nat}{ks:List Ky}{f:Ky→Int}(h:DPk H d xs ep ks f):xs.length=ks.length:=by
 have:=congrArg List.length h.2
 rw [List.length_map,List.length_map] at this
 exact this
theorem DPk.put {H:Hp}{d g:Addr}{xs:PEs}{ep ep':Nat}{ks:List Ky}{f:Ky→Int}{k:Ky}(h:DPk H d xs ep ks f)(hk:KeyP H (kc k) g):DPk (upd H d (dpO d (xs++[(kc k,g,V.int (f k))]) ep')) d (xs++[(kc k,g,V.int (f k))]) ep' (ks++[k]) f:=by
 refine ⟨⟨aD,fun x hx=>?_⟩,?_⟩
 ·have hx':KeyP H x.1 x.2.1:=by
   rcases List.mem_append.mp hx with hx | hx
   ·exact h.1.2 x hx
   ·rw [List.mem_singleton.mp hx];exact hk
  obtain ⟨b,e1,e2⟩:=hx'
  exact ⟨b,by rw [aP (fun z=>by rw [z,h.1.1] at e1;cases e1)];exact e1,by rw [aP (fun z=>by rw [z,h.1.1] at e2;cases e2)];exact e2⟩
 ·rw [List.map_append,List.map_append,h.2];rfl
theorem aAD {H:Hp}{s:List Nat}{p a:Addr}{σ:St}{Q:VK}(hp:SqT K H p ((ic s.tail).map V.int))(ha:SqT K H a ((ic s).map V.int))(hs:σ[2]?=some (some (.ref a)))(q:∀ z,SqT K H z ((ic (jL s)).map V.int)→Q (.ref z) H) :
  ∃ c,aDQ K (.ref p) H c∧if c=true then Q (.ref p) H else aF 2 σ H Q:=by
 refine ⟨!((ic s.tail).map V.int).isEmpty, .inr (.inl ⟨_,hp,rfl⟩),?_⟩
 have e:((ic s.tail).map V.int).isEmpty=s.tail.isEmpty:=by cases s.tail <;> rfl
 rw [e]
 cases h:s.tail.isEmpty with
 | true=>exact aDA ⟨_,hs,q a (by unfold jL;rw [h];exact ha)⟩
 | false=>exact aEy (q p (by unfold jL;rw [h];exact hp))
noncomputable def spRests (K:PySem.W.Frag):Sp:=fun vs H Q _=>∃ (v:V) (T:List (List Int)) (n:Nat),vs=[v]∧Tb K H v T n∧∀ d xs ep H',Same H H'→DPk H' d xs ep (aAH n) (rest (at2 T) n)→Q (.ref d) H'
theorem rd_rests:∀ vs H Q E,spRests K vs H Q E→jM K (spOnw K) spParts { nx:=fun _ H'=>Q .non H',rt:=Q } (bB ["table","rests","some","last"] vs) H:=by
 intro vs H Q E h
 obtain ⟨v,T,n,rfl,tb,q⟩:=h
 intro d ep0 hd
 have sd:=aH hd (dpO d [] ep0)
 have hd0:upd H d (dpO d [] ep0) d=some (dpO d [] ep0):=aD
 show aS _ _ _ _ (upd H d (dpO d [] ep0))
 generalize upd H d (dpO d [] ep0)=H0 at sd hd0 ⊢
 have tb0:=tb.same sd
 obtain ⟨ta,rs,ev,hta,hrl,_⟩:=tb0.sh.tab
 subst ev
 have hrn:rs.length=n:=by rw [hrl,tb.quad.len]
 have h1:=tb.one
 have h8:=tb.most
 refine ⟨_,rfl,ta,rs,rfl, .inr hta,n,by rw [hrn];rfl,h1,h8,fun pa pre H1 s1 hpa tps=>⟨pa,pre,rfl, .of hpa,?_⟩⟩
 have hd1:=s1 _ _ hd0
 have hN:pre.length=(aV (n - 1)).length:=tps.1
 have s01:=sd.trans s1
 have up1:∀ {H':Hp},SameX d H1 H'→Same H H':=fun sx b u e=>sx b u (aM e hd) (s01 b u e)
 refine aCm (xs:=pre) rfl (fun i σ' H'=>i≤(aV (n - 1)).length∧∃ xs ep x2 x3,σ'=[some (.ref ta),some (.ref d),x2,x3]∧DPk H' d xs ep (eB ((aV (n - 1)).drop ((aV (n - 1)).length - i))) (rest (at2 T) n)∧SameX d H1 H') ⟨Nat.zero_le _,[],ep0,none,none,rfl,⟨⟨hd1,fun x hx=>by cases hx⟩,by rw [Nat.sub_zero,List.drop_length];rfl⟩,SameX.refl _ _⟩ (fun i σ1 H2 _ ⟨_,xs,ep,x2,x3,_,_,sx⟩ => .of (sx _ _ (fun z=>by subst z;rw [hpa] at hd1;cases hd1) hpa)) ?_ ?_
 ·rintro i y σ1 H2 hi hy ⟨_,xs,ep,x2,x3,rfl,dp,sx⟩
  have hi:i<(aV (n - 1)).length:=by omega
  have hj:(aV (n - 1)).length - 1 - i<(aV (n - 1)).length:=by omega
  have hps:(aV (n - 1))[(aV (n - 1)).length - 1 - i]?=some ((aV (n - 1))[(aV (n - 1)).length - 1 - i]):=List.getElem?_eq_getElem hj
  obtain ⟨b,e1,e2⟩:=tps.2 _ _ hps
  rw [hN,e1] at hy
  cases hy
  have ok:=mP h1 h8 hps
  have edr:(aV (n - 1)).drop ((aV (n - 1)).length - (i+1))=(aV (n - 1))[(aV (n - 1)).length - 1 - i] :: (aV (n - 1)).drop ((aV (n - 1)).length - i):=by
   rw [show (aV (n - 1)).length - (i+1)=(aV (n - 1)).length - 1 - i by omega,List.drop_eq_getElem_cons hj,show (aV (n - 1)).length - 1 - i+1=(aV (n - 1)).length - i by omega]
  rw [show (aV (n - 1)).length - 1 - i+1=(aV (n - 1)).length - i by omega] at ok
  have hsm:=uY (P:=aV (n - 1)) (m:=(aV (n - 1)).length - (i+1))
  have hk8:=nV (n - 1) (by omega)
  rw [edr] at hsm ⊢
  have hrest:∀ q∈(aV (n - 1)).drop ((aV (n - 1)).length - i),q∈aV (n - 1):=fun q hq=>List.mem_of_mem_drop hq
  generalize (aV (n - 1))[(aV (n - 1)).length - 1 - i]=s at e2 ok hsm ⊢
  generalize (aV (n - 1)).drop ((aV (n - 1)).length - i)=rst at dp ok hsm hrest ⊢
  rw [uU] at hsm ⊢
  obtain ⟨lnd,lin,_⟩:=uR ok
  have hbd:b≠d:=fun z=>by subst z;rw [e2] at hd1;cases hd1
  have hb2:=sx _ _ hbd e2
  refine ⟨_,rfl,1,rfl, .inr ⟨b,_,rfl, .of hb2,fun p H3 s3 hp=>?_⟩⟩
  have hp':SqT K H3 p ((ic s.tail).map V.int):=by
   have e:=zY (xs:=(ic s).map V.int) (t:=1) (by obtain ⟨r,rfl⟩:=ok.zero;simp)
   rw [show ((1:Nat):Int)=1 from rfl] at e
   rw [e] at hp
   have e2:((ic s).map V.int).drop 1=(ic s.tail).map V.int:=by cases s <;> rfl
   rw [e2] at hp
   exact hp
  have hb3:=s3 _ _ hb2
  have dp3:=dp.same s3
  have hd3:=dp3.1.1
  refine aAD hp' (.of hb3) rfl fun z hz=>⟨z,rfl, .inr ⟨⟨_,hz⟩,?_⟩⟩
  have lz:((ic (jL s)).map V.int).length=(jL s).length:=by rw [List.length_map,List.length_map]
  refine zK (K:=K) (a:=z) (xs:=(ic (jL s)).map V.int) (fun j σ' H'=>∃ xs ep x3,σ'=[some (.ref ta),some (.ref d),some (.ref b),x3]∧DPk H' d xs ep (eB rst++(fB s).take j) (rest (at2 T) n)∧SameX d H3 H') ⟨xs,ep,x3,rfl,by rw [List.take_zero,List.append_nil];exact dp3,SameX.refl _ _⟩ (fun j σ' H' _ ⟨_,_,_,_,_,sx'⟩=>pR hz hd3 (fun _ z=>by cases z) (fun _ _ z=>by cases z) sx') ?_ ?_
  ·rintro j y σ2 H4 hy ⟨xs,ep,x3,rfl,dp4,sx4⟩
   rw [List.map_map,List.getElem?_map] at hy
   obtain ⟨l,hl,rfl⟩:=Option.map_eq_some_iff.mp hy
   have hlm:=List.mem_of_getElem? hl
   have hln:l<n:=ok.lt l (lin l hlm)
   have hb4:=sx4 _ _ hbd hb3
   have sxx:SameX d H1 H4:=(sx.trans s3.x).trans sx4
   have sm4:=up1 sxx
   have tb4:=tb.same sm4
   obtain ⟨ta',rs',ev,hta4,hrl4,_⟩:=tb4.sh.tab
   cases ev
   have hrn4:rs'.length=n:=by rw [hrl4,tb.quad.len]
   have hkl:(fB s)[j]?=some (s,l):=by unfold fB;rw [List.getElem?_map,hl];rfl
   have hknew:(s,l)∉eB rst++(fB s).take j:=by
    rw [List.mem_append]
    rintro (hm | hm)
    ·exact ok.new (fY.mp hm).1
    ·unfold fB at hm
     rw [← List.map_take] at hm
     obtain ⟨l',hl',e⟩:=List.mem_map.mp hm
     have e:l'=l:=(Prod.mk.inj e).2
     subst e
     obtain ⟨m,hm'⟩:=List.mem_iff_getElem?.mp hl'
     rw [List.getElem?_take] at hm'
     split at hm'
     ·rename_i hlt
      have hjl:=(List.getElem?_eq_some_iff.mp hl)
      have hml:=(List.getElem?_eq_some_iff.mp hm')
      have:=(List.getElem_inj lnd).mp (hml.2.trans hjl.2.symm)
      omega
     ·cases hm'
   have hxl:xs.length<sizeLine:=by
    rw [dp4.len,List.length_append,List.length_take]
    rw [List.length_append] at hsm
    exact Nat.lt_of_le_of_lt (show (eB rst).length+min j (fB s).length≤1000 by omega) (by decide)
   have fin:∀ (g:Addr) (H5:Hp),Same H4 H5→H5 g=none→∀ D:iE,(∀ σ' H',(∃ xs ep x3,σ'=[some (V.ref ta),some (.ref d),some (.ref b),x3]∧DPk H' d xs ep (eB rst++(fB s).take (j+1)) (rest (at2 T) n)∧SameX d H3 H')→D.nx σ' H') →
     ∃ a c xs ep k,V.ref d=V.ref a∧V.ref g=V.ref c∧DP (upd H5 g (.tup [.ref b, .int (l:Int)])) a xs ep∧KeyP (upd H5 g (.tup [.ref b, .int (l:Int)])) k c∧vQ xs k=none∧xs.length<sizeLine∧∀ ep',D.nx [some (V.ref ta),some (.ref d),some (.ref b),some (.int (l:Int))] (upd (upd H5 g (.tup [.ref b, .int (l:Int)])) a (dpO a (xs++[(k,c,V.int (rest (at2 T) n (s,l)))]) ep')):=fun g H5 s5 hg D hD=>by
    have s6:=aH hg (.tup [V.ref b, .int (l:Int)])
    have dp6:=(dp4.same s5).same s6
    have kp:KeyP (upd H5 g (.tup [.ref b, .int (l:Int)])) (kc (s,l)) g:=⟨b,aD,s6 _ _ (s5 _ _ hb4)⟩
    refine ⟨d,g,xs,ep,kc (s,l),rfl,rfl,dp6.1,kp,aBB dp4.2 hknew,hxl,fun ep'=>hD _ _ ⟨xs++[(kc (s,l),g,V.int (rest (at2 T) n (s,l)))],ep',_,rfl,?_,(sx4.trans (s5.trans s6).x).trans (SameX.put _)⟩⟩
    have:=DPk.put (ep':=ep') dp6 kp
    rw [List.append_assoc] at this
    rw [List.take_add_one,hkl]
    exact this
   by_cases hf:s.length=n
   ·refine ⟨_,rfl,b,_,rfl, .inr (.of hb4),_,rfl,ta,rs',rfl, .inr hta4, .int _, .int _,Nat.zero_le _,rfl,rfl,_,rfl,jP ?_ ?_⟩
    ·rw [yU,List.length_map,List.length_map,hrn4,hf];exact decide_eq_true rfl
    refine ⟨_,rfl,_,rfl,rX tb4.sh tb.quad hln fun c hc=>ixT (j:=0) hc (v := .int (at2 T l 0)) ?_ ?_⟩
    ·obtain ⟨row,e1,e2,e3⟩:=tb.quad.get hln
     rw [List.getElem?_map,L2.jT (by rw [e3];omega)];rfl
    refine ⟨_,rfl,_,rfl,_,rfl,by show 2≤sizeLine;decide,fun g hg=>?_⟩
    have:=fin g H4 (Same.refl _) hg
    rw [qE hf] at this
    exact this _ fun σ' H' z=>z
   ·have hlt:s.length<n:=by have:=ok.le;omega
    refine ⟨_,rfl,b,_,rfl, .inr (.of hb4),_,rfl,ta,rs',rfl, .inr hta4, .int _, .int _,Nat.zero_le _,rfl,rfl,_,rfl,eM ?_ ?_⟩
    ·rw [yU,List.length_map,List.length_map,hrn4];exact decide_eq_false (by omega)
    refine ⟨_,rfl,_,rfl,_,rfl,_,rfl, .ref ta,T,n,d,b,xs,ep,_,_,s,l,rfl,tb4,dp4, .of hb4,ok.up,?_,by omega,hln,fun p hp=>List.mem_append_left _ (uE h1 h8 ok hrest hp),fun r pre' H5 s5 hr rows=>?_⟩
    ·obtain ⟨r,rfl⟩:=ok.zero;simp
    have hne:left n s≠[]:=fun e=>hf (ok.full.mpr e)
    refine .inr ⟨r,pre',_,rfl, .inl (.of hr),rows,by simpa using hne,fun i' c row hi1 hi2 hc hmin=>?_⟩
    rw [List.getElem?_map] at hi2
    obtain ⟨p,hp,rfl⟩:=Option.map_eq_some_iff.mp hi2
    have hval:at2 T l p+rest (at2 T) n (ins p s,p)=rest (at2 T) n (s,l):=by
     rw [rA hlt]
     refine (yV (x:=at2 T l p+rest (at2 T) n (ins p s,p)) (List.mem_map.mpr ⟨p,List.mem_of_getElem? hp,rfl⟩) fun y hy=>?_).symm
     obtain ⟨p',hp',rfl⟩:=List.mem_map.mp hy
     exact aBo (hmin _ (List.mem_map.mpr ⟨p',hp',rfl⟩))
    rw [hval] at hc
    refine ixT (j:=0) hc rfl ?_
    exact ⟨_,rfl,_,rfl,_,rfl,by show 2≤sizeLine;decide,fun g hg=>fin g H5 s5 hg _ fun σ' H' z=>z⟩
  ·rintro σ2 H4 ⟨xs,ep,x3,rfl,dp4,sx4⟩
   refine ⟨by omega,xs,ep,_,x3,rfl,?_,(sx.trans s3.x).trans sx4⟩
   have e:(fB s).take ((ic (jL s)).map V.int).length=fB s:=by
    rw [lz]
    exact List.take_of_length_le (by unfold fB;rw [List.length_map];exact Nat.le_refl _)
   rw [e] at dp4
   exact dp4
 ·rintro σ1 H2 ⟨_,xs,ep,x2,x3,rfl,dp,sx⟩
  refine ⟨_,rfl,q d xs ep H2 (up1 sx) ?_⟩
  rw [hN,Nat.sub_self,List.drop_zero] at dp
  exact dp
end
end K60.S
namespace K60.S
open PySem L2
noncomputable def pth (t:Nat→Nat→Int):List Nat→Int
 | []=>0
 | [_]=>0
 | a :: b :: l=>t a b+pth t (b :: l)
theorem pC {t:Nat→Nat→Int}{p l:Nat}:∀ {g:List Nat},pth t (g++[l]++[p])=pth t (g++[l])+t l p
 | []=>by show t l p+0=0+t l p;omega
 | [a]=>by show t a l+(t l p+0)=t a l+0+t l p;omega
 | a :: b :: g=>by
  have:=pC (t:=t) (p:=p) (l:=l) (g:=b :: g)
  show t a b+pth t (b :: g++[l]++[p])=t a b+pth t (b :: g++[l])+t l p
  rw [this];omega
structure aDb (n:Nat)(g:List Nat):Prop where
 perm:g.Perm (List.range n)
 zero:∃ r,g=0 :: r
theorem yD {n:Nat}{s:List Nat}{rest:List (List Nat)}(ok:oD n s rest)(h:s.length=n):s.Perm (List.range n):=by
 refine (List.perm_ext_iff_of_nodup (ok.up.imp fun h=>Nat.ne_of_lt h) List.nodup_range).mpr fun p=>⟨fun hp=>List.mem_range.mpr (ok.lt p hp),fun hp=>?_⟩
 refine Classical.byContradiction fun hn=>?_
 have:=iO.mpr ⟨List.mem_range.mp hp,hn⟩
 rw [ok.full.mp h] at this
 cases this
section
variable {K:PySem.W.Frag}
theorem qP {n j p:Nat}{s:List Nat}(h1:1≤n)(h8:n≤8)(hj:(aV (n - 1))[j]?=some s)(hp:p∈left n s):(ins p s,p)∈aAH n∧∃ j':Nat,(aV (n - 1))[j']?=some (ins p s):=by
 have ok:=mP h1 h8 hj
 have:=uE h1 h8 ok (fun q hq=>List.mem_of_mem_drop hq) hp
 obtain ⟨m1,m2⟩:=fY.mp this
 have m3:ins p s∈aV (n - 1):=List.mem_of_mem_drop m1
 exact ⟨fY.mpr ⟨m3,m2⟩,List.mem_iff_getElem?.mp m3⟩
noncomputable def spRound (K:PySem.W.Frag):Sp:=fun vs H Q _=>∃ (v:V) (T:List (List Int)) (n:Nat) (d:Addr) (xs:PEs) (ep:Nat),vs=[v, .ref d]∧Tb K H v T n∧DPk H d xs ep (aAH n) (rest (at2 T) n) ∧
 ∀ b g H',Same H H'→H' b=some (.tup ((ic g).map V.int))→aDb n g→pth (at2 T) (g++[0])=rest (at2 T) n ([0],0)→Q (.ref b) H'
theorem rd_round:∀ vs H Q E,spRound K vs H Q E→fU K (spOnw K) { nx:=fun _ H'=>Q .non H',rt:=Q } (bB ["table","rests","gone","some"] vs) H:=by
 intro vs H Q E h
 obtain ⟨v,T,n,d,xs,ep,rfl,tb,dp,q⟩:=h
 have h1:=tb.one
 have h8:=tb.most
 refine ⟨by show 1≤sizeLine;decide,fun c hc=>?_⟩
 have s0:=aH hc (.tup [V.int 0])
 have hc0:upd H c (.tup [V.int 0]) c=some (.tup [V.int 0]):=aD
 show aS _ _ _ _ (upd H c (.tup [V.int 0]))
 generalize upd H c (.tup [V.int 0])=H0 at s0 hc0 ⊢
 obtain ⟨j0,hj0⟩:∃ j,(aV (n - 1))[j]?=some [0]:=⟨0,by
  have:∀ k,(aV k)[0]?=some [0]:=fun k=>by
   induction k with
   | zero=>rfl
   | succ k ih=>
    show (aV k++(aV k).map (· ++ [k+1]))[0]?=_
    rw [List.getElem?_append_left (List.getElem?_eq_some_iff.mp ih).1];exact ih
  exact this _⟩
 refine ⟨fun m σ' H'=>∃ b g0 l s j x3,σ'=[some v,some (.ref d),some (.ref b),x3]∧H' b=some (.tup ((ic (g0++[l])).map V.int))∧Same H H'∧(g0++[l]).Perm s∧(∃ r,g0++[l]=0 :: r)∧(aV (n - 1))[j]?=some s∧pth (at2 T) (g0++[l])+rest (at2 T) n (s,l)=rest (at2 T) n ([0],0)∧m=n - s.length,⟨n - 1,c,[],0,[0],j0,none,rfl,hc0,s0, .refl _,⟨[],rfl⟩,hj0,by show 0+_=_;omega,rfl⟩,?_⟩
 rintro m σ1 H1 ⟨b,g0,l,s,j,x3,rfl,hb,s1,hperm,hz,hj,hval,rfl⟩
 have ok:=mP h1 h8 hj
 have hgl:(g0++[l]).length=s.length:=hperm.length_eq
 have bl:((ic (g0++[l])).map V.int).length=s.length:=by rw [List.length_map,List.length_map,hgl]
 have tb1:=tb.same s1
 have dp1:=dp.same s1
 obtain ⟨ta,rs,ev,hta,hrl,_⟩:=tb1.sh.tab
 subst ev
 have hrn:rs.length=n:=by rw [hrl,tb.quad.len]
 have hls:l∈s:=hperm.mem_iff.mp (by simp)
 have hln:=ok.lt l hls
 have hle:=ok.le
 refine ⟨_,rfl,b,_,rfl, .inr (.of hb),_,rfl,ta,rs,rfl, .inr hta,_,_,rfl,rfl,_,rfl,?_⟩
 rw [bl,hrn]
 by_cases hf:s.length=n
 ·refine eM (decide_eq_false (by omega)) ?_
  refine ⟨_,rfl,q b _ H1 s1 hb ⟨hperm.trans (yD ok hf),hz⟩ ?_⟩
  rw [pC,← hval,qE hf]
 ·have hlt:s.length<n:=by omega
  refine jP (decide_eq_true (by omega)) ⟨fun σ' H'=>∃ m',m'<n - s.length∧∃ b g0 l s j x3,σ'=[some (.ref ta),some (.ref d),some (.ref b),x3]∧H' b=some (.tup ((ic (g0++[l])).map V.int))∧Same H H'∧(g0++[l]).Perm s∧(∃ r,g0++[l]=0 :: r)∧(aV (n - 1))[j]?=some s∧pth (at2 T) (g0++[l])+rest (at2 T) n (s,l)=rest (at2 T) n ([0],0)∧m'=n - s.length,fun _ _ z=>z,?_⟩
  refine ⟨_,rfl,b,_,rfl, .inr (.of hb),by rw [List.length_map,hgl];omega,fun ms hp1 hp2 e he=>?_⟩
  obtain rfl:ms=ic s:=yJ hp1 hp2 (hperm.map _) ok.up
  refine ⟨e,_,rfl, .inl ⟨.of aD,fun a ha=>?_⟩⟩
  have s2:=(aH he (.lst ((ic s).map V.int))).trans (aH ha (.tup ((ic s).map V.int)))
  have ha2:upd (upd H1 e (.lst ((ic s).map V.int))) a (.tup ((ic s).map V.int)) a=some (.tup ((ic s).map V.int)):=aD
  show aS _ _ _ _ (upd (upd H1 e (.lst ((ic s).map V.int))) a (.tup ((ic s).map V.int)))
  generalize upd (upd H1 e (.lst ((ic s).map V.int))) a (.tup ((ic s).map V.int))=H2 at s2 ha2 ⊢
  have hb2:=s2.tup (K:=K) (.of hb)
  have hlast:((ic (g0++[l])).map V.int)[((ic (g0++[l])).map V.int).length - 1]?=some (.int (l:Int)):=by
   rw [List.length_map,List.length_map,List.length_append,List.map_map,List.getElem?_map]
   simp
  refine ⟨_,rfl,_,rfl,_,rfl,_,rfl,_,rfl,1,rfl,uN hb2 hlast ?_⟩
  refine ⟨.ref ta,T,n,d,a,xs,ep,aAH n,rest (at2 T) n,s,l,rfl,tb1.same s2,dp1.same s2, .of ha2,ok.up,?_,by omega,hln,fun p hp=>(qP h1 h8 hj hp).1,fun r pre H3 s3 hr rows=>?_⟩
  ·obtain ⟨r,rfl⟩:=ok.zero;simp
  have hne:left n s≠[]:=fun e=>hf (ok.full.mpr e)
  refine .inr ⟨r,pre,_,rfl, .inl (.of hr),rows,by simpa using hne,fun i' c row hi1 hi2 hc hmin=>?_⟩
  rw [List.getElem?_map] at hi2
  obtain ⟨p,hp,rfl⟩:=Option.map_eq_some_iff.mp hi2
  have hpm:=List.mem_of_getElem? hp
  have hv2:at2 T l p+rest (at2 T) n (ins p s,p)=rest (at2 T) n (s,l):=by
   rw [rA hlt]
   refine (yV (x:=at2 T l p+rest (at2 T) n (ins p s,p)) (List.mem_map.mpr ⟨p,hpm,rfl⟩) fun y hy=>?_).symm
   obtain ⟨p',hp',rfl⟩:=List.mem_map.mp hy
   exact aBo (hmin _ (List.mem_map.mpr ⟨p',hp',rfl⟩))
  refine ixT (j:=1) hc (v := .int (p:Int)) rfl ?_
  refine ⟨by show 1≤sizeLine;decide,fun u hu => .inr ⟨b,u,_,_,rfl,rfl,((s3.trans (aH hu _))).tup hb2, .of aD,by rw [bl];exact Nat.le_trans (show s.length+1≤9 by omega) (by decide),fun w H4 cw hw s4=>?_⟩⟩
  obtain ⟨_,j',hj'⟩:=qP h1 h8 hj hpm
  refine ⟨n - (ins p s).length,by rw [yR];omega,w,g0++[l],p,ins p s,j',_,rfl,?_,s1.trans (s2.trans (s3.trans ((aH hu _).trans s4))),?_,?_,hj',?_,rfl⟩
  ·have e2:(ic (g0++[l])).map V.int++[V.int (p:Int)]=(ic (g0++[l]++[p])).map V.int:=by
    rw [← uO (s:=g0++[l]) (p:=p),List.map_append (l₁:=ic (g0++[l]))];rfl
   rw [← e2];exact lH (by simp) (by simp) cw
  ·exact (hperm.append_right [p]).trans jB.symm
  ·obtain ⟨r,hr⟩:=hz
   exact ⟨r++[p],by rw [hr];rfl⟩
  ·rw [pC,← hval,← hv2];omega
end
end K60.S
namespace K60.S
open PySem L2
noncomputable def Flo (H:Hp) (pre:List V) (ks:List Ky) (f:Ky→Int):Prop:=pre.length=ks.length∧∀ (i:Nat) (k:Ky),ks[i]?=some k→∃ b c,pre[i]?=some (.ref b)∧H b=some (.tup [.ref c, .int (k.2:Int), .int (f k)])∧H c=some (.tup ((ic k.1).map V.int))
theorem Flo.same {H H':Hp}{pre:List V}{ks:List Ky}{f:Ky→Int}(h:Flo H pre ks f)(s:Same H H'):Flo H' pre ks f:=⟨h.1,fun i k e=>let ⟨b,c,e1,e2,e3⟩:=h.2 i k e;⟨b,c,e1,s _ _ e2,s _ _ e3⟩⟩
theorem Flo.x {H H':Hp}{pre:List V}{ks:List Ky}{f:Ky→Int}{d:Addr}{o:HO}(h:Flo H pre ks f)(hd:H d=some o)(ho:∀ xs,o ≠ .tup xs)(s:SameX d H H'):Flo H' pre ks f:=
 ⟨h.1,fun i k e=>let ⟨b,c,e1,e2,e3⟩:=h.2 i k e;⟨b,c,e1,s _ _ (fun z=>by subst z;rw [hd] at e2;exact ho _ (Option.some.inj e2)) e2,s _ _ (fun z=>by subst z;rw [hd] at e3;exact ho _ (Option.some.inj e3)) e3⟩⟩
theorem Flo.snoc {H:Hp}{pre:List V}{ks:List Ky}{f:Ky→Int}{k:Ky}{b c:Addr}(h:Flo H pre ks f)(h1:H b=some (.tup [.ref c, .int (k.2:Int), .int (f k)]))(h2:H c=some (.tup ((ic k.1).map V.int))):Flo H (pre++[.ref b]) (ks++[k]) f:=by
 refine ⟨by rw [List.length_append,List.length_append,h.1];rfl,fun i q e=>?_⟩
 rcases zJ e with ⟨hi,e⟩ | ⟨hi,e⟩
 ·obtain ⟨b,c,e1,e2⟩:=h.2 i q e
  exact ⟨b,c,by rw [List.getElem?_append_left (by rw [h.1];exact hi)];exact e1,e2⟩
 ·have h0:i - ks.length=0:=by
   rcases hk:i - ks.length with _ | m
   ·rfl
   ·rw [hk] at e;cases e
  rw [h0] at e
  obtain rfl:k=q:=by simpa using e
  exact ⟨b,c,by rw [List.getElem?_append_right (by rw [h.1];exact hi),h.1,h0];rfl,h1,h2⟩
theorem DPk.at {H:Hp}{d:Addr}{xs:PEs}{ep:Nat}{ks:List Ky}{f:Ky→Int}{i:Nat}{x:PKy × Addr × V}(h:DPk H d xs ep ks f)(hx:xs[i]?=some x):∃ k b,ks[i]?=some k∧x.1=kc k∧x.2.2 = .int (f k)∧H x.2.1=some (.tup [.ref b, .int (k.2:Int)])∧H b=some (.tup ((ic k.1).map V.int)):=by
 have e:=congrArg (fun l=>l[i]?) h.2
 simp only [List.getElem?_map,hx,Option.map_some] at e
 obtain ⟨k,hk,e2⟩:=Option.map_eq_some_iff.mp e.symm
 obtain ⟨e3,e4⟩:=Prod.mk.inj e2
 obtain ⟨b,h1,h2⟩:=h.1.2 x (List.mem_of_getElem? hx)
 rw [← e3] at h1 h2
 exact ⟨k,b,hk,e3.symm,e4.symm,h1,h2⟩
theorem zV {n:Nat}(h1:1≤n)(h8:n≤8):(aAH n).length≤1000:=nV (n - 1) (by omega)
theorem wK {n:Nat}(h1:1≤n)(h8:n≤8):(([0],0):Ky)∈aAH n:=by
 have:∀ k,[0]∈aV k:=fun k=>by
  induction k with
  | zero=>exact List.mem_cons_self ..
  | succ k ih=>exact List.mem_append_left _ ih
 exact fY.mpr ⟨this _,by decide⟩
section
variable {K:PySem.W.Frag}{S:Addr}
noncomputable def spShort (K:PySem.W.Frag):Sp:=fun vs H Q _=>∃ (v:V) (T:List (List Int)) (n:Nat),vs=[v]∧Tb K H v T n ∧
 ∀ b gb fa g pre H',Same H H'→H' b=some (.tup [.int (rest (at2 T) n ([0],0)), .ref gb, .ref fa])→H' gb=some (.tup ((ic g).map V.int))→aDb n g→pth (at2 T) (g++[0])=rest (at2 T) n ([0],0)→H' fa=some (.lst pre)→Flo H' pre (aAH n) (rest (at2 T) n)→H fa=none→Q (.ref b) H'
theorem rd_short (hS:∀ H,KeyQ K H (kc ([0],0)) S):∀ vs H Q E,spShort K vs H Q E→oB K S (spRests K) (spRound K) { nx:=fun _ H'=>Q .non H',rt:=Q } (bB ["table","rests","floors"] vs) H:=by
 intro vs H Q E h
 obtain ⟨v,T,n,rfl,tb,q⟩:=h
 have h1:=tb.one
 have h8:=tb.most
 refine ⟨_,rfl,v,T,n,rfl,tb,fun d xs ep H1 s1 dp=>?_⟩
 refine ⟨_,rfl,d,xs,ep,rfl,dp.1.1,fun acc ha=>?_⟩
 refine vZ (d:=d) (xs:=xs) (ep:=ep) (fun i σ' H'=>i≤xs.length∧(∃ x0 x1 x2,σ'=[x0,x1,x2])∧Same H1 H'∧∃ L,H' acc=some (.lst L)∧Flo H' L ((aAH n).take i) (rest (at2 T) n)) ⟨Nat.zero_le _,⟨none,none,none,rfl⟩,aH ha _,[],aD,rfl,fun i k e=>by cases e⟩ (fun i σ' H' _ ⟨_,_,sm,_⟩=>sm _ _ dp.1.1) ?_ ?_
 ·rintro i x σ1 H2 p hx hp ⟨_,⟨x0,x1,x2,rfl⟩,sm,L,hL,fl⟩
  obtain ⟨k,b,hk,e1,e2,hc,hb⟩:=(dp.same sm).at hx
  have hi:i<xs.length:=(List.getElem?_eq_some_iff.mp hx).1
  rw [e2]
  have s2:=aH hp (.tup [V.ref x.2.1,V.int (rest (at2 T) n k)])
  refine ⟨p,_,rfl, .of aD,rfl, .ref x.2.1,[.int _],rfl,x.2.1,[.ref b, .int (k.2:Int)],rfl, .of (s2 _ _ hc),rfl, .ref b,[.int _],rfl, .int _,[],rfl,rfl, .int _,[],rfl,rfl,?_⟩
  refine ⟨_,rfl,_,rfl,_,rfl,by show 3≤sizeLine;decide,fun u hu=>?_⟩
  have s3:=s2.trans (aH hu (.tup [V.ref b,V.int (k.2:Int),V.int (rest (at2 T) n k)]))
  have hL3:=s3 _ _ hL
  refine ⟨L,hL3,?_,hi,⟨_,_,_,rfl⟩,uM ha (sm.trans s3),_,aD,?_⟩
  ·rw [fl.1,List.length_take]
   have:=zV h1 h8
   exact Nat.lt_of_le_of_lt (show min i (aAH n).length≤1000 by omega) (by decide)
  ·rw [List.take_add_one,hk]
   exact ((fl.same s3).snoc aD (s3 _ _ hb)).x hL3 (fun _ z=>by cases z) (SameX.put _)
 ·rintro σ1 H2 ⟨_,_,sm,L,hL,fl⟩
  rw [dp.len,List.take_length] at fl
  refine ⟨_,rfl,d,S,xs,ep,kc ([0],0),_,rfl,rfl,(dp.same sm).1,hS _,vW dp.2 (wK h1 h8),?_⟩
  refine ⟨_,rfl,_,rfl,v,T,n,d,xs,ep,rfl,tb.same (s1.trans sm),dp.same sm,fun gb g H3 s3 hg hr hv=>?_⟩
  refine ⟨_,rfl,by show 3≤sizeLine;decide,fun b hb=>?_⟩
  have s4:=aH hb (.tup [V.int (rest (at2 T) n ([0],0)), .ref gb, .ref acc])
  have s5:=s3.trans s4
  refine q b gb acc g L _ (s1.trans (sm.trans s5)) aD (s4 _ _ hg) hr hv (s5 _ _ hL) (fl.same s5) (s1.free ha)
end
end K60.S
namespace K60.S
open PySem L2
noncomputable def aBy (n:Nat):Nat→List Nat→List (List Nat)
 | 0,_=>[[]]
 | m+1,s=>(left n s).flatMap fun p=>(aBy n m (ins p s)).map (p :: ·)
theorem pY {n:Nat}:∀ {m:Nat} {s w:List Nat},w∈aBy n m s↔w.length=m∧w.Nodup∧∀ x∈w,x<n∧x∉s
 | 0,s,w=>by
  unfold aBy
  rw [List.mem_singleton]
  constructor
  ·rintro rfl;exact ⟨rfl,List.nodup_nil,fun x hx=>by cases hx⟩
  ·rintro ⟨h,_,_⟩;exact List.length_eq_zero_iff.mp h
 | m+1,s,w=>by
  unfold aBy
  rw [List.mem_flatMap]
  constructor
  ·rintro ⟨p,hp,h⟩
   obtain ⟨w',hw,rfl⟩:=List.mem_map.mp h
   obtain ⟨h1,h2,h3⟩:=pY.mp hw
   refine ⟨by rw [List.length_cons,h1],List.nodup_cons.mpr ⟨fun z=>(h3 p z).2 (jV.mpr (.inl rfl)),h2⟩,fun x hx=>?_⟩
   rcases List.mem_cons.mp hx with e | hx
   ·rw [e];exact iO.mp hp
   ·exact ⟨(h3 x hx).1,fun z=>(h3 x hx).2 (jV.mpr (.inr z))⟩
  ·rintro ⟨h1,h2,h3⟩
   cases w with
   | nil=>cases h1
   | cons p w=>
    obtain ⟨n1,n2⟩:=List.nodup_cons.mp h2
    refine ⟨p,iO.mpr (h3 p (List.mem_cons_self ..)),List.mem_map.mpr ⟨w,pY.mpr ⟨by simpa using h1,n2,fun x hx=>⟨(h3 x (List.mem_cons_of_mem _ hx)).1,fun z=>?_⟩⟩,rfl⟩⟩
    rcases jV.mp z with e | z
    ·exact n1 (by rw [← e];exact hx)
    ·exact (h3 x (List.mem_cons_of_mem _ hx)).2 z
section
variable {t t':Nat→Nat→Int}{n:Nat}
theorem aFh:∀ {m:Nat} {s:List Nat} {l:Nat} {w:List Nat},w∈aBy n m s→R t n m s l≤pth t (l :: (w++[0]))
 | 0,s,l,w,h=>by
  unfold aBy at h
  rw [List.mem_singleton.mp h]
  show t l 0≤t l 0+0
  omega
 | m+1,s,l,w,h=>by
  unfold aBy at h
  obtain ⟨p,hp,h⟩:=List.mem_flatMap.mp h
  obtain ⟨w',hw,rfl⟩:=List.mem_map.mp h
  have ih:=aFh (l:=p) hw
  have:R t n (m+1) s l≤t l p+R t n m (ins p s) p:=xM (List.mem_map.mpr ⟨p,hp,rfl⟩)
  show _≤t l p+pth t (p :: (w'++[0]))
  omega
noncomputable def xH (n:Nat):List (List Nat):=aBy n (n - 1) [0]
noncomputable def aFB (t:Nat→Nat→Int) (w:List Nat):Int:=pth t (0 :: (w++[0]))
theorem mem_rounds {w:List Nat}:w∈xH n↔w.length=n - 1∧w.Nodup∧∀ x∈w,x<n∧x≠0:=by
 unfold xH
 rw [pY]
 simp
theorem rest_le {w:List Nat}(h:w∈xH n):rest t n ([0],0)≤aFB t w:=aFh h
end
end K60.S
namespace K60
open PySem L2
theorem kD:∀ {ns:List Int},(∀ i∈ns,i.natAbs<10 ^ 40)→PyData.showableAll (kT (ns.map Dt.int))=true∧PyData.leavesShortAll 1930 (kT (ns.map Dt.int))=true∧PyData.bulkAll (kT (ns.map Dt.int))≤ns.length∧jZ (ns.map Dt.int)=0
 | [],_=>⟨by unfold List.map kT PyData.showableAll;rfl,by unfold List.map kT PyData.leavesShortAll;rfl,by unfold List.map kT PyData.bulkAll;exact Nat.zero_le _,rfl⟩
 | n :: ns,h=>by
  obtain ⟨d,e,a,b,_⟩:=aDM (K:=default) (H:=fun _=>none) (h n (by simp))
  have hd:d = .int n:=by cases d <;> first | (cases e;done) | (cases e;rfl) | (obtain ⟨_,_,z,_⟩:=e;cases z)
  subst hd
  obtain ⟨a',b',c',f'⟩:=kD fun i hi=>h i (List.mem_cons_of_mem _ hi)
  rw [List.map_cons]
  unfold kT PyData.showableAll PyData.leavesShortAll PyData.bulkAll
  refine ⟨by rw [a,a'];rfl,by rw [b,b'];rfl,?_,by rw [jZ,f'];rfl⟩
  rw [List.length_cons]
  show 0+1+_≤_
  omega
theorem aAK {ps:List Nat}(h:∀ p∈ps,p<9)(hl:ps.length≤60):okR (.tup ((ps.map fun p:Nat=>(p:Int)).map Dt.int)):=by
 obtain ⟨a,b,c,d⟩:=kD (ns:=ps.map fun p:Nat=>(p:Int)) fun i hi=>by
  obtain ⟨p,hp,rfl⟩:=List.mem_map.mp hi
  have:=h p hp
  exact Nat.lt_of_lt_of_le (show ((p:Int)).natAbs<9 by omega) (by decide)
 rw [List.length_map] at c
 exact ⟨by unfold toP PyData.showable;exact a,by unfold toP PyData.leavesShort;exact b,by unfold toP PyData.bulk;omega,by rw [dep,d];decide⟩
structure Tour (n:Nat)(ps:List Nat):Prop where
 hd:ps.head?=some 0
 pm:ps.Perm (List.range n)
theorem oJ:∀ ns:List Int,L.intsOf (ns.map Dt.int)=ns
 | []=>rfl
 | a :: ns=>by
  have:=oJ ns
  show a :: L.intsOf (ns.map Dt.int)=a :: ns
  rw [this]
theorem aAV (n:Nat):oN 0 (n:Int)=(List.range n).map fun p:Nat=>(p:Int):=by
 unfold oN
 rw [Int.sub_zero,Int.toNat_natCast]
 exact List.map_congr_left fun i _=>by omega
theorem Tour.ro {n:Nat}{ps:List Nat}(h:Tour n ps):L.roD n (.tup ((ps.map fun p:Nat=>(p:Int)).map Dt.int))=true:=by
 show (List.all _ L.whD && (decide ((L.intsOf _).take 1=[0]) && (L.intsOf _).isPerm _))=true
 rw [oJ,aAV]
 have e1:(((ps.map fun p:Nat=>(p:Int)).map Dt.int).all L.whD)=true:=by
  rw [List.all_map,List.all_eq_true]
  intro x _
  rfl
 have e2:((ps.map fun p:Nat=>(p:Int)).take 1)=[0]:=by
  have:=h.hd
  cases ps with
  | nil=>cases this
  | cons a ps=>
   have:a=0:=by simpa using this
   subst this
   rfl
 rw [e1,e2,List.isPerm_iff.mpr (h.pm.map _)]
 rfl
noncomputable def rl (T:List (List Int)) (ps:List Nat):Int:=S.pth (at2 T) (ps++[0])
theorem Tour.le {T:List (List Int)}{n:Nat}{ps:List Nat}(h:Tour n ps)(n1:1≤n):S.rest (at2 T) n ([0],0)≤rl T ps:=by
 obtain ⟨r,rfl⟩:∃ r,ps=0 :: r:=by
  have:=h.hd
  cases ps with
  | nil=>cases this
  | cons a ps=>
   have:a=0:=by simpa using this
   subst this
   exact ⟨ps,rfl⟩
 have nd:=h.pm.nodup_iff.mpr List.nodup_range
 have:=S.rest_le (t:=at2 T) (n:=n) (w:=r) (S.mem_rounds.mpr ⟨by have:=h.pm.length_eq;simp at this;omega,(List.nodup_cons.mp nd).2,fun x hx=>⟨List.mem_range.mp (h.pm.mem_iff.mp (List.mem_cons_of_mem _ hx)),fun e=>(List.nodup_cons.mp nd).1 (e ▸ hx)⟩⟩)
 exact this
theorem yW {t:Nat→Nat→Int}:∀ (L:List Nat),S.pth t L=((List.range (L.length - 1)).map fun i=>t (L.getD i 0) (L.getD (i+1) 0)).sum
 | []=>rfl
 | [_]=>rfl
 | a :: b :: L=>by
  have:=yW (t:=t) (b :: L)
  show t a b+S.pth t (b :: L)=((List.range (L.length+1)).map _).sum
  rw [List.range_succ_eq_map,List.map_cons,List.sum_cons,this,List.map_map]
  rfl
theorem pU {ps:List Nat}(h0:ps.head?=some 0):∃ r,ps=0 :: r:=by
 cases ps with
 | nil=>cases h0
 | cons a r=>exact ⟨r,by rw [Option.some.inj h0]⟩
theorem wO {T:List (List Int)}{ps:List Nat}(h0:ps.head?=some 0):gL T ps=rl T ps:=by
 obtain ⟨r,rfl⟩:=pU h0
 rw [← hZ (by simp)]
 unfold vV rl
 rw [jI,yW]
 have e:((0 :: r)++[0]:List Nat).length - 1=(0 :: r:List Nat).length:=by simp
 rw [e]
 congr 1
 refine List.map_congr_left fun i hi=>?_
 have hi:=List.mem_range.mp hi
 have e1:((0 :: r)++[0]:List Nat).getD i 0=(0 :: r:List Nat).getD i 0:=by rw [List.getD_eq_getElem?_getD,List.getElem?_append_left hi,← List.getD_eq_getElem?_getD]
 rw [e1]
 rfl
theorem aCA {ps o:List Nat}(h:uC ps o)(h0:ps.head?=some 0):o.head?=some 0:=by
 obtain ⟨r,rfl⟩:=pU h0
 obtain ⟨b,s,i,⟨b1,s1,le,c⟩,h⟩:=h
 have i1:1≤i:=by omega
 obtain ⟨b',rfl⟩:∃ b',b=b'+1:=⟨b - 1,by omega⟩
 obtain ⟨i',rfl⟩:∃ i',i=i'+1:=⟨i - 1,by omega⟩
 rcases h with rfl | rfl
 ·rfl
 ·rfl
theorem Tour.mv {n:Nat}{ps o:List Nat}(h:Tour n ps)(m:uC ps o):Tour n o:=⟨aCA m h.hd,(lM m).trans h.pm⟩
theorem Tour.td {n:Nat}{ps:List Nat}(h:Tour n ps):Td n ps:=⟨by rw [h.pm.length_eq,List.length_range],fun p hp=>List.mem_range.mp (h.pm.mem_iff.mp hp)⟩
theorem Tour.least {T:List (List Int)}{n:Nat}{ps:List Nat}(h:Tour n ps)(n1:1≤n):S.rest (at2 T) n ([0],0)≤gL T ps:=by
 rw [wO h.hd]
 exact h.le n1
theorem aAR {a b x y:Nat}(h:[x,y].Perm [a,b]):(x=a∧y=b)∨(x=b∧y=a):=by
 have hx:x∈[a,b]:=h.mem_iff.mp (by simp)
 rcases List.mem_cons.mp hx with rfl | hx
 ·exact .inl ⟨rfl,by simpa using (List.perm_cons x).mp h⟩
 ·obtain rfl:=List.mem_singleton.mp hx
  exact .inr ⟨rfl,by simpa using (List.perm_cons x).mp (h.trans (List.Perm.swap ..))⟩
theorem aEX {n:Nat}{ps os:List Nat}(h4:n≤4)(h:Tour n ps)(g:Tour n os):os=ps∨uC ps os:=by
 obtain ⟨r,rfl⟩:=pU h.hd
 obtain ⟨q,rfl⟩:=pU g.hd
 have pm:q.Perm r:=(List.perm_cons 0).mp (g.pm.trans h.pm.symm)
 have hl:r.length+1=n:=by have:=h.pm.length_eq;rw [List.length_range,List.length_cons] at this;exact this
 have hq:=pm.length_eq
 match r,q,hl,hq,pm with
 | [],[],_,_,_=>exact .inl rfl
 | [a],[x],_,_,pm=>exact .inl (by rw [show x=a by simpa using pm])
 | [a,b],[x,y],_,_,pm=>
  rcases aAR pm with ⟨rfl,rfl⟩ | ⟨rfl,rfl⟩
  ·exact .inl rfl
  ·exact .inr ⟨1,2,1,⟨by decide,by decide,by simp, .inl ⟨by decide,by decide,by simp⟩⟩, .inl rfl⟩
 | [a,b,c],[x,y,z],_,_,pm=>
  have hx:x∈[a,b,c]:=pm.mem_iff.mp (by simp)
  rcases List.mem_cons.mp hx with rfl | hx
  ·rcases aAR ((List.perm_cons x).mp pm) with ⟨rfl,rfl⟩ | ⟨rfl,rfl⟩
   ·exact .inl rfl
   ·exact .inr ⟨2,2,2,⟨by decide,by decide,by simp, .inl ⟨by decide,by decide,by simp⟩⟩, .inl rfl⟩
  rcases List.mem_cons.mp hx with rfl | hx
  ·rcases aAR ((List.perm_cons x).mp (pm.trans (List.Perm.swap ..))) with ⟨rfl,rfl⟩ | ⟨rfl,rfl⟩
   ·exact .inr ⟨1,2,1,⟨by decide,by decide,by simp, .inl ⟨by decide,by decide,by simp⟩⟩, .inl rfl⟩
   ·exact .inr ⟨1,1,3,⟨by decide,by decide,by simp, .inl ⟨by decide,by decide,by simp⟩⟩, .inr rfl⟩
  ·obtain rfl:=List.mem_singleton.mp hx
   have p3:[a,b,x].Perm [x,a,b]:=(List.perm_append_comm (l₁:=[a,b]) (l₂:=[x]))
   rcases aAR ((List.perm_cons x).mp (pm.trans p3)) with ⟨rfl,rfl⟩ | ⟨rfl,rfl⟩
   ·exact .inr ⟨3,1,1,⟨by decide,by decide,by simp, .inl ⟨by decide,by decide,by simp⟩⟩, .inr rfl⟩
   ·exact .inr ⟨1,3,1,⟨by decide,by decide,by simp, .inl ⟨by decide,by decide,by simp⟩⟩, .inl rfl⟩
 | a :: b :: c :: d :: r,_,hl,_,_=>simp at hl;omega
theorem xT {T:List (List Int)}{n:Nat}{Os:List (List Nat)}(hB:Bet T Os)(h0:∀ x,Os[0]?=some x→Tour n x):∀ (i:Nat) (x:List Nat),Os[i]?=some x→Tour n x:=by
 intro i
 induction i with
 | zero=>exact h0
 | succ i ih=>
  intro x hx
  have hi:i<Os.length:=by have:=(List.getElem?_eq_some_iff.mp hx).1;omega
  exact (ih _ (List.getElem?_eq_getElem hi)).mv (hB.2.1 i _ x (List.getElem?_eq_getElem hi) hx).2.1
theorem xJ {T:List (List Int)}{Os:List (List Nat)}{g:List Nat}(hB:Bet T Os)(h0:Os[0]?=some g)(hs:∀ o,uC g o→gL T g≤gL T o):Os=[g]:=by
 match Os,h0 with
 | [x],h0=>rw [Option.some.inj h0]
 | x :: y :: Os,h0=>
  have e:x=g:=Option.some.inj h0
  have:=hB.2.1 0 x y rfl rfl
  rw [e] at this
  have h2:=hs y this.2.1
  have h3:=this.1
  omega
theorem aCh {T:List (List Int)}{Os:List (List Nat)}{g:List Nat}(hB:Bet T Os)(h0:Os[0]?=some g):(∀ o,uC g o→gL T g≤gL T o)↔Os.length=1:=by
 constructor
 ·intro h
  rw [xJ hB h0 h]
  rfl
 ·intro hl
  refine hB.2.2 g ?_
  rw [hl]
  exact h0
end K60
namespace K60
open PySem L2
theorem aAs {n:Nat}{ps:List Nat}(h:Td n ps)(n8:n≤8):okR (tupN ps):=aAK (fun p hp=>by have:=h.lt p hp;omega) (by rw [h.len];omega)
theorem xR {n:Nat}{ps:List Nat}(h:Td n ps)(n8:n≤8):okR (.lst [tupN ps]):=by
 obtain ⟨a,b,c,d⟩:=aAs h n8
 refine ⟨by unfold toP kT PyData.showable PyData.showableAll kT PyData.showableAll;rw [a];rfl,by unfold toP kT PyData.leavesShort PyData.leavesShortAll kT PyData.leavesShortAll;rw [b];rfl,?_,?_⟩
 ·have hb:(toP (tupN ps)).bulk≤60:=by
   obtain ⟨_,_,c',_⟩:=kD (ns:=ps.map fun p:Nat=>(p:Int)) fun i hi=>by
    obtain ⟨p,hp,rfl⟩:=List.mem_map.mp hi
    have:=h.lt p hp
    exact Nat.lt_of_lt_of_le (show ((p:Int)).natAbs<9 by omega) (by decide)
   rw [List.length_map,h.len] at c'
   unfold tupN toP PyData.bulk
   omega
  unfold toP kT PyData.bulk PyData.bulkAll kT PyData.bulkAll
  omega
 ·have e:dep (tupN ps)=1:=by unfold tupN;rw [dep,gH]
  rw [dep,jZ,jZ,e]
  decide
section
variable {K:PySem.W.Frag}{Pt:Addr}
noncomputable def fD (K:PySem.W.Frag) (Pt:Addr):Sp:=fun vs H Q _=>∃ (v:V) (b:Addr) (sm:Bool) (T:List (List Int)) (n:Nat) (ps:List Nat),vs=[v, .ref b, .bl sm]∧Sh K H (mG T) v∧Quad T n∧Bnd T n∧1≤n∧n≤8∧H b=some (.tup (ps.map bX))∧Tour n ps∧TabS H Pt dX qL∧(sm=true→n≤4) ∧
 ∀ H',SameX Pt H H'→TabS H' Pt dX qL→Q (.bl true) H'
theorem wJ {σ:St}{H:Hp}{v:V}{F:Addr}{T:List (List Int)}{n:Nat}{xs:List V}{Os:List (List Nat)}{Q:VK}(h0:σ[0]?=some (some v))(h6:σ[6]?=some (some (.ref F)))(hS:Sh K H (mG T) v)(hq:Quad T n)(n8:n≤8)(hF:H F=some (.lst xs))(al:Al n H xs Os)(hz:xs.length≤9000000)(ht:∀ (i:Nat) (x:List Nat),Os[i]?=some x→Tour n x)(q:∀ H',Same H H'→Q (.bl true) H') :
  tCB (aCO K) (aB (eV [none,some 0] (uQ K (aF 6)) (aN 0) [] fun acc=>(dO (tOp aEq (aW (L.spRound K) [] E0 (aB (aF 1) (aB (aF 0) aQ))) (tC (.bl true))) acc)) aQ) σ H Q:=by
 obtain ⟨ta,rs,rfl,hta,hrl,_⟩:=id hS.tab
 have hrn:rs.length=n:=by rw [hrl,hq.len]
 refine ⟨_,h6,F,rfl, .inl ⟨⟨_, .of hF⟩,fun acc hacc=>?_⟩⟩
 refine oW (K:=K) (a:=F) (xs:=xs) (fun i σ' H'=>i≤xs.length∧(∃ y,σ'=[y,some (.ref ta)])∧Same H H'∧H' acc=some (.lst ((List.replicate i true).map V.bl))) ⟨Nat.zero_le _,⟨none,by show [none,σ[0]?.join]=_;rw [h0];rfl⟩,aH hacc _,aD⟩ (fun i σ' H' _ ⟨_,_,m,_⟩ => .of (m _ _ hF)) (fun i x σ1 H1 hx ⟨_,⟨y,es⟩,m1,ha1⟩=>?_) fun σ1 H1 ⟨_,_,m1,ha1⟩=>?_
 ·subst es
  have hi:i<xs.length:=(List.getElem?_eq_some_iff.mp hx).1
  obtain ⟨c,o,rfl,ho,hc,to_⟩:=(al.same m1).at hx
  have lo:=to_.len
  refine ⟨_,rfl,_,rfl,ta,rs, .ref c,tupN o,rfl,m1.tup hta,by omega,pL (.of hc),fun ds e=>?_,fun H2 m2=>?_⟩
  ·unfold tupN at e
   cases e
   rw [List.length_map,List.length_map]
   omega
  ·rw [hrn]
   refine .inl ⟨_,_,rfl,rfl,?_⟩
   rw [show L.roD n (tupN o)=true from (ht i o ho).ro]
   refine ⟨_,m2 _ _ ha1,by rw [List.length_map,List.length_replicate];exact Nat.lt_of_le_of_lt (show i≤9000000 by omega) (by decide),hi,⟨_,rfl⟩,tG hacc (m1.trans m2),?_⟩
   rw [List.replicate_succ',List.map_append]
   exact aD
 ·refine ⟨acc,List.replicate xs.length true,rfl, .inl (.of ha1),?_⟩
  rw [show (List.replicate xs.length true).all id=true by simp]
  exact q H1 m1
theorem aAL:∀ vs H Q E,fD K Pt vs H Q E→gU K (aAM K) (aEn K) (aEm K Pt) (L.spRound K) (yO K) (S.spShort K) { nx:=fun _ H'=>Q .non H',rt:=Q } (bB ["table","told","is_small","least","best","floors","found"] vs) H:=by
 intro vs H Q E h
 obtain ⟨v,b,sm,T,n,ps,rfl,hS,hq,bT,n1,n8,hb,tp,hT,hsm,q⟩:=h
 refine ⟨_,rfl,v,T,n,rfl,⟨hS,hq,n1,n8⟩,fun b0 gb fa g pre H1 m1 hb0 hg rg eg hfa _ _=>?_⟩
 refine ⟨b0,_,rfl, .of hb0,rfl,_,_,rfl,_,_,rfl,_,[],rfl,rfl,?_⟩
 have tg:Tour n g:=⟨by obtain ⟨r,rfl⟩:=rg.zero;rfl,rg.perm⟩
 have sg:gL T g=S.rest (at2 T) n ([0],0):=by rw [wO tg.hd];exact eg
 have hg:H1 gb=some (.tup (g.map bX)):=by
  have:(S.ic g).map V.int=g.map bX:=aAY g
  rw [this] at hg
  exact hg
 have setg:∀ o,uC g o→gL T g≤gL T o:=fun o ho=>by rw [sg];exact (tg.mv ho).least n1
 have hT1:=hT.same m1
 obtain ⟨tb1,hP1⟩:=gG hT1
 have hS1:=hS.same m1
 have hb1:=m1 _ _ hb
 refine ⟨_,rfl,_,rfl,v,b,T,n,ps,rfl,hS1,hq,bT,n1,n8,hb1,tp.td,hT1,fun F xs Os H2 sx2 tb2 hF hF2 al e0 hz hB=>?_⟩
 have hS2:=zF hS1 hP1 sx2
 have hb2:=qJ hP1 hb1 sx2
 have hg2:=qJ hP1 hg sx2
 have tours:=xT (n:=n) hB fun x hx=>by rw [e0] at hx;rw [← Option.some.inj hx];exact tp
 have hxl:=al.1
 have hne:1≤Os.length:=by have:=(List.getElem?_eq_some_iff.mp e0).1;omega
 have hlast:xs.length - 1<xs.length:=by omega
 obtain ⟨c,o,ex,ho,hc,to_⟩:=al.at (List.getElem?_eq_getElem hlast)
 have gl:xs[xs.length - 1]?=some (.ref c):=by rw [List.getElem?_eq_getElem hlast,ex]
 have too:=tours _ _ ho
 have lo:=to_.len
 have fin:=hB.2.2 o (by rw [← hxl];exact ho)
 refine ⟨_,rfl,_,rfl,v,F,T,n,xs,Os,rfl,hS2,hq,n1,n8,hF2,al,hz,fun c1 H3 hc1 m3=>?_⟩
 obtain rfl:c1=true:=hc1.mpr hB
 refine .inl ⟨_,_,rfl,rfl,_,rfl,eM rfl ?_⟩
 refine ⟨_,rfl,_,rfl,1,rfl,iR (v := .ref c) (.of (m3 _ _ hF2)) gl ⟨v,c,T,n,o,rfl,hS2.same m3,hq, .of (m3 _ _ hc),lo,n1,n8,to_.lt,fun c2 H4 m4 hc2=>?_⟩⟩
 obtain rfl:c2=true:=hc2.mpr fin
 refine .inl ⟨_,_,rfl,rfl,_,rfl,eM rfl ?_⟩
 have m24:=m3.trans m4
 show tCB (aCO K) (aB (eV [none,some 0] (uQ K (aF 6)) (aN 0) [] fun acc=>(dO (tOp aEq (aW (L.spRound K) [] E0 (aB (aF 1) (aB (aF 0) aQ))) (tC (.bl true))) acc)) aQ) [some v,some (.ref b),some (.bl sm),some (.int (S.rest (at2 T) n ([0],0))),some (.ref gb),some (.ref fa),some (.ref F)] H4 _
 refine wJ rfl rfl (hS2.same m24) hq n8 (m24 _ _ hF2) (al.same m24) hz tours fun H5 m5=>⟨_,rfl,eM rfl ?_⟩
 have m25:=m24.trans m5
 refine ⟨_,rfl,_,rfl,1,rfl,iR (v := .ref c) (.of (m25 _ _ hF2)) gl ⟨v,c,T,n,o,rfl,hS2.same m25,hq, .of (m25 _ _ hc),by omega,by omega,to_.lt,fun H6 m6=>?_⟩⟩
 have ge:=too.least (T:=T) n1
 refine ⟨_,rfl,_,_,rfl,rfl,_,rfl,eM (decide_eq_false (by omega)) ?_⟩
 have m26:=m25.trans m6
 have hg6:=m26 _ _ hg2
 refine ⟨_,rfl,_,rfl,v,gb,T,n,g,rfl,hS2.same m26,hq, .of hg6,tg.td.len,n1,n8,tg.td.lt,fun c3 H7 m7 hc3=>?_⟩
 obtain rfl:c3=true:=hc3.mpr setg
 refine .inl ⟨_,_,rfl,rfl,_,rfl,eM rfl ?_⟩
 have m27:=m26.trans m7
 have tb7:=tb2.same m27
 obtain ⟨t7,hP7⟩:=gG tb7
 have hg7:=m7 _ _ hg6
 refine ⟨_,rfl,_,rfl,v,gb,T,n,g,rfl,hS2.same m27,hq,bT,n1,n8,hg7,tg.td,tb7,fun F2 ys Ps H8 sx8 tb8 hF8 hF82 al8 e8 _ hB8=>?_⟩
 have eP:=xJ hB8 e8 setg
 subst eP
 have hg8:=qJ hP7 hg7 sx8
 refine ⟨.lst [tupN g],_,rfl,?_,xR tg.td n8,_,rfl,show 1≤sizeLine by decide,fun M hM=>?_⟩
 ·have:=al8.rows (K:=K) |>.sh (.of hF82)
  exact this
 have mM:=aH hM (.lst [.ref gb])
 refine ⟨.lst [tupN g],_,rfl,?_,xR tg.td n8, .str _, .str _,Nat.zero_le _,rfl,rfl,_,rfl,eM (by rw [jA];rfl) ?_⟩
 ·exact ⟨M,_,rfl, .of aD,_,_,rfl,pL (.of (mM _ _ hg8)),rfl⟩
 generalize upd H8 M (.lst [.ref gb])=H9 at *
 have hb9:=mM _ _ (qJ hP7 (m27 _ _ hb2) sx8)
 have hS9:=(zF (hS2.same m27) hP7 sx8).same mM
 have hF9:=mM _ _ (aAa hP7 (m27 _ _ hF2) sx8)
 have hc9:=mM _ _ (qJ hP7 (m27 _ _ hc) sx8)
 have sx9:SameX Pt H H9:=((m1.x.trans sx2).trans m27.x).trans (sx8.trans mM.x)
 have tb9:=tb8.same mM
 refine ⟨_,rfl,_,rfl,v,b,T,n,ps,rfl,hS9,hq, .of hb9,tp.td.len,n1,n8,tp.td.lt,fun c4 H10 m10 hc4=>?_⟩
 refine ⟨_,rfl,F,_,rfl, .inl (.of (m10 _ _ hF9)), .int _, .int 1,Nat.zero_le _,rfl,rfl, .bl c4, .bl _,Nat.zero_le _,rfl,rfl,_,rfl,eM ?_ ?_⟩
 ·have e:c4=eqD (.int ((xs.length:Nat):Int)) (.int 1):=by
   have h1:=hc4.trans (aCh hB e0)
   rw [eqD]
   by_cases e1:Os.length=1
   ·rw [h1.mpr e1]
    have:((xs.length:Nat):Int)=1:=by omega
    rw [this]
    rfl
   ·have e2:c4=false:=by
     cases c4 with
     | false=>rfl
     | true=>exact absurd (h1.mp rfl) e1
    rw [e2]
    symm
    have:¬ ((xs.length:Nat):Int)=1:=by omega
    simp [this]
  rw [← e,jA]
  rfl
 have sx10:=sx9.trans m10.x
 have tb10:=tb9.same m10
 refine ⟨_,rfl,_,rfl,_,rfl,?_⟩
 cases sm with
 | false=>exact jP rfl (q _ sx10 tb10)
 | true=>
  refine eM rfl ?_
  refine ⟨_,rfl,_,rfl,1,rfl,iR (v := .ref c) (.of (m10 _ _ hF9)) gl ⟨v,c,T,n,o,rfl,hS9.same m10,hq, .of (m10 _ _ hc9),by omega,by omega,to_.lt,fun H11 m11=>?_⟩⟩
  refine ⟨_,rfl, .int _, .int _,Nat.zero_le _,rfl,rfl,?_⟩
  have le:gL T o≤gL T g:=by
   rcases aEX (hsm rfl) too tg with e | e
   ·rw [e];exact Int.le_refl _
   ·exact fin g e
  have e:gL T o=S.rest (at2 T) n ([0],0):=by omega
  rw [e,jA]
  exact q _ (sx10.trans m11.x) (tb10.same m11)
end
end K60
namespace K60
open PySem L2
noncomputable def aDK (K:PySem.W.Frag) (dA:Sp) (bV:Sp) (bW:Sp) (aJ:Sp) (cG:Sp):TS:=(aS (dB (tOp (bD K) (tC (.int 1)) (aW aJ [] E0 (aB (aF 1) (aB (tOp (cQ K) (rT (aB (tC (.int 4)) (aB (tC (.int 7)) aQ))) (tCB xF (aB (tOp yGt (aF 2) (tC (.int 3))) aQ))) aQ)))) (aN 3)) (aS (dB (aW bW [] E0 (aB (aF 1) (aB (aF 3) (aB (aCM (tOp yLt (aF 2) (tC (.int 4))) (tOp (sP K) (aW aJ [] E0 (aB (aF 1) (aB (tC (.int 2)) aQ))) (tC (.int 0)))) aQ)))) (aN 4)) (aS (mY (zN (tB (aW bV [] E0 (aB (aF 4) (aB (aW cG [] E0 (aB (aF 1) (aB (aF 3) aQ))) (aB (tOp yLt (aF 2) (tC (.int 4))) aQ)))))) (aS (eD (tC (.bl false))) aO) aO) aO)))
section
variable {K:PySem.W.Frag}{Pt:Addr}
theorem uA {H H':Hp}{p:Addr}{L:List V}(h:TabS H Pt dX qL)(hp:H p=some (.lst L))(sx:SameX p H H'):TabS H' Pt dX qL:=by
 rcases h with h | ⟨c,h1,h2⟩
 ·exact .inl (sx _ _ (ne_of h hp (fun z=>nomatch z)) h)
 ·exact .inr ⟨c,sx _ _ (ne_of h1 hp (fun z=>nomatch z)) h1,sx _ _ (ne_of h2 hp (fun z=>nomatch z)) h2⟩
theorem PenAt.t {H H':Hp}{p l:Addr}{ms:List Int}{k:Nat}{z:Int}{ps:Array Value}(h:PenAt H p l ms k z)(hp:H Pt=some (.tbl ps))(sx:SameX Pt H H'):PenAt H' p l ms k z:=⟨aAa hp h.1 sx,aAa hp h.2.1 sx,h.2.2⟩
theorem aCf {n:Nat}{os:List Nat}(h0:os.take 1=[0])(pm:os.Perm (List.range n)):Tour n os:=⟨by
 cases os with
 | nil=>cases h0
 | cons a os=>rw [show a=0 by simpa using h0];rfl,pm⟩
theorem aCD {a p l:Addr}{ms:List Int}{H:Hp}{i n:Nat}{x4:Option V}{k:Nat}{z:Int}{D:iE}(hP:PenAt H p l ms k z)(hk:k≤7000)(hT:TabS H Pt dX qL)(n1:1≤n)(n8:n≤8)(hs:i<4→n≤4)
  (hN:∀ x4 k' z' H',PenAt H' p l ms k' z'→k'≤k+400→TabS H' Pt dX qL→D.nx [some (.ref a),some (.ref p),some (.int (i:Int)),some (.int (n:Int)),x4] H') :
  (aS (dB (aW (jC K) [] E0 (aB (aF 1) (aB (aF 3) (aB (aCM (tOp yLt (aF 2) (tC (.int 4))) (tOp (sP K) (aW eZ [] E0 (aB (aF 1) (aB (tC (.int 2)) aQ))) (tC (.int 0)))) aQ)))) (aN 4)) (aS (mY (zN (tB (aW (fD K Pt) [] E0 (aB (aF 4) (aB (aW (jF K) [] E0 (aB (aF 1) (aB (aF 3) aQ))) (aB (tOp yLt (aF 2) (tC (.int 4))) aQ)))))) (aS (eD (tC (.bl false))) aO) aO) aO)) D [some (.ref a),some (.ref p),some (.int (i:Int)),some (.int (n:Int)),x4] H:=by
 have key:∀ (ev:Bool) (k1:Nat) (z1:Int) (H1:Hp),PenAt H1 p l ms k1 z1→k1≤k+1→TabS H1 Pt dX qL→jC K [.ref p, .int (n:Int), .bl ev] H1 (fun v H2=>(aS (mY (zN (tB (aW (fD K Pt) [] E0 (aB (aF 4) (aB (aW (jF K) [] E0 (aB (aF 1) (aB (aF 3) aQ))) (aB (tOp yLt (aF 2) (tC (.int 4))) aQ)))))) (aS (eD (tC (.bl false))) aO) aO) aO) D [some (.ref a),some (.ref p),some (.int (i:Int)),some (.int (n:Int)),some v] H2) E0:=by
  intro ev k1 z1 H1 hP1 hk1 hT1
  refine ⟨p,l,ms,k1,z1,n,ev,rfl,hP1,by omega,n1,n8,fun T v k2 z2 H2 qT bT hT2 hP2 hk2 sx2=>?_⟩
  refine ⟨_,rfl,_,rfl,_,rfl,p,l,ms,k2,z2,n,rfl,hP2,by omega,n1,n8,fun os b k3 z3 H3 pm h0 hP3 hk3 sx3 hb=>?_⟩
  have t3:=uA (uA hT1 hP1.1 sx2) hP2.1 sx3
  obtain ⟨tb,hPt⟩:=gG t3
  refine ⟨_,rfl,_,_,rfl,rfl,v,b,_,T,n,os,rfl,aCV hT2 hP2.1 sx3,qT,bT,n1,n8,hb,aCf h0 pm,t3,fun e=>hs (by have:=of_decide_eq_true e;omega),fun H4 sx4 t4=>⟨_,rfl,eM rfl ?_⟩⟩
  exact hN _ k3 z3 H4 (hP3.t hPt sx4) (by omega) t4
 refine ⟨_,rfl,_,rfl,_,rfl,_,_,rfl,rfl,_,rfl,?_⟩
 by_cases c:(i:Int)<4
 ·exact jP (decide_eq_true c) (key true k z H hP (by omega) hT)
 ·refine eM (decide_eq_false c) ?_
  refine ⟨_,rfl,p,l,ms,k,z,2,rfl,hP,by omega,by decide,by decide,fun r2 k2 z2 H2 hr2 hk2 hP2 sx2=>⟨.int _, .int 0,Nat.zero_le _,rfl,rfl,key _ k2 z2 H2 hP2 (by omega) (uA hT hP.1 sx2)⟩⟩
theorem aBS {a p l:Addr}{ms:List Int}{H0:Hp}{i:Nat}{x3 x4:Option V}{k:Nat}{z:Int}{D:iE}(hP:PenAt H0 p l ms k z)(hk:k≤6000)(hT:TabS H0 Pt dX qL)
  (hN:∀ x3 x4 k' z' H',PenAt H' p l ms k' z'→k'≤k+500→TabS H' Pt dX qL→D.nx [some (.ref a),some (.ref p),some (.int (i:Int)),x3,x4] H') :
  aDK K (vE K) (fD K Pt) (jC K) eZ (jF K) D [some (.ref a),some (.ref p),some (.int (i:Int)),x3,x4] H0:=by
 refine ⟨_,rfl,show 2≤sizeLine by decide,fun E hE=>?_⟩
 have mE:=aH hE (.lst [V.int 4,V.int 7])
 have hE1:(upd H0 E (.lst [V.int 4,V.int 7])) E=some (.lst [V.int 4,V.int 7]):=aD
 generalize upd H0 E (.lst [V.int 4,V.int 7])=G at *
 have hPG:=hP.x mE
 have hTG:=hT.same mE
 refine ⟨_,rfl,_,_,rfl,rfl, .inr ⟨_,rfl,?_⟩⟩
 have step:∀ (j m:Nat),[V.int 4,V.int 7][j]?=some (V.int (m:Int))→1≤m→m≤7→(i<4→m≤4)→cQ K (.ref E) (.int (j:Int)) G (fun x H=>eZ [.ref p,x] H (fun y H1=>bD K (.int 1) y H1 fun w H2=>(aS (dB (aW (jC K) [] E0 (aB (aF 1) (aB (aF 3) (aB (aCM (tOp yLt (aF 2) (tC (.int 4))) (tOp (sP K) (aW eZ [] E0 (aB (aF 1) (aB (tC (.int 2)) aQ))) (tC (.int 0)))) aQ)))) (aN 4)) (aS (mY (zN (tB (aW (fD K Pt) [] E0 (aB (aF 4) (aB (aW (jF K) [] E0 (aB (aF 1) (aB (aF 3) aQ))) (aB (tOp yLt (aF 2) (tC (.int 4))) aQ)))))) (aS (eD (tC (.bl false))) aO) aO) aO)) D [some (.ref a),some (.ref p),some (.int (i:Int)),some w,x4] H2) E0):=by
  intro j m hj m1 m7 hs
  refine ixL (j:=j) (.of hE1) hj ?_
  refine ⟨p,l,ms,k,z,m,rfl,hPG,by omega,m1,by omega,fun r1 k1 z1 H1 hr1 hk1 hP1 sx1=>?_⟩
  dsimp only [bD]
  rw [show 1+(r1:Int)=((1+r1:Nat):Int) by omega]
  exact aCD hP1 (by omega) (uA hTG hPG.1 sx1) (by omega) (by omega) (fun h=>by have:=hs h;omega) fun x4 k' z' H' hP' hk' t'=>hN _ _ k' z' H' hP' (by omega) t'
 by_cases c:(i:Int) > 3
 ·rw [decide_eq_true c]
  show cQ K (.ref E) (.int ((1:Nat):Int)) G _
  exact step 1 7 rfl (by decide) (by decide) (fun h=>by omega)
 ·rw [decide_eq_false c]
  show cQ K (.ref E) (.int ((0:Nat):Int)) G _
  exact step 0 4 rfl (by decide) (by decide) (fun h=>by omega)
noncomputable def zB (K:PySem.W.Frag) (Pt:Addr):Sp:=fun vs H Q _=>∃ (a:Addr) (ns:List Int),vs=[.ref a]∧SqL K H a (ns.map V.int)∧ns.length≤63∧H Pt=some (.tbl #[])∧∀ H',Q (.bl true) H'
theorem aDI:∀ vs H Q E,zB K Pt vs H Q E→aDP K (vE K) (fD K Pt) (jC K) eZ (jF K) { nx:=fun _ H'=>Q .non H',rt:=Q } (bB ["script","pen","turn","many","table"] vs) H:=by
 intro vs H Q E h
 obtain ⟨a,ns,rfl,hS,hn,hT,q⟩:=h
 refine ⟨_,rfl,a,ns,rfl,hS,fun p l ms H1 s1 hP=>?_⟩
 refine ⟨6,rfl,by decide,by decide,?_⟩
 refine dY (lo:=0) (n:=6) (fun i σ' H'=>∃ x2 x3 x4 k z,σ'=[some (.ref a),some (.ref p),x2,x3,x4]∧PenAt H' p l ms k z∧k≤500*i∧TabS H' Pt dX qL) ⟨_,_,_,0,0,rfl,hP,Nat.zero_le _, .inl (s1 _ _ hT)⟩ (fun i σ' H' hi ⟨x2,x3,x4,k,z,es,hP',hk,t'⟩=>?_) fun σ' H' _=>q H'
 subst es
 show aDK K (vE K) (fD K Pt) (jC K) eZ (jF K) _ [some (.ref a),some (.ref p),some (.int (0+(i:Int))),x3,x4] H'
 rw [Int.zero_add]
 exact aBS hP' (by omega) t' fun x3 x4 k' z' H2 hP2 hk2 t2=>⟨_,_,_,k',z',rfl,hP2,by omega,t2⟩
end
end K60
namespace K60
open PySem L2
section
variable {K:PySem.W.Frag}{Pt:Addr}
theorem tI:∀ vs H Q E,(K60.L.spW K) vs H Q E→vs.length=1:=by
 intro vs H Q E h
 obtain ⟨_,_,e,_⟩:=h
 rw [e]
 rfl
theorem oM:∀ vs H Q E,(K60.L.spWs K) vs H Q E→vs.length=1:=by
 intro vs H Q E h
 obtain ⟨_,_,e,_⟩:=h
 rw [e]
 rfl
theorem sX:∀ vs H Q E,(K60.L.spRound K) vs H Q E→vs.length=2:=by
 intro vs H Q E h
 obtain ⟨_,_,_,_,e,_⟩:=h
 rw [e]
 rfl
theorem wD:∀ vs H Q E,(aCL K) vs H Q E→vs.length=2:=by
 intro vs H Q E h
 obtain ⟨_,_,_,_,_,e,_⟩:=h
 rw [e]
 rfl
theorem uX:∀ vs H Q E,(aEz K) vs H Q E→vs.length=2:=by
 intro vs H Q E h
 obtain ⟨_,_,_,_,e,_⟩:=h
 rw [e]
 rfl
theorem sV:∀ vs H Q E,(mJ K) vs H Q E→vs.length=1:=by
 intro vs H Q E h
 obtain ⟨_,_,e,_⟩:=h
 rw [e]
 rfl
theorem iC:∀ vs H Q E,(xQ K) vs H Q E→vs.length=3:=by
 intro vs H Q E h
 obtain ⟨_,_,_,_,e,_⟩:=h
 rw [e]
 rfl
theorem kU:∀ vs H Q E,(K60.spShort K) vs H Q E→vs.length=2:=by
 intro vs H Q E h
 obtain ⟨_,_,_,_,_,e,_⟩:=h
 rw [e]
 rfl
theorem pZ:∀ vs H Q E,(yO K) vs H Q E→vs.length=2:=by
 intro vs H Q E h
 obtain ⟨_,_,_,_,_,e,_⟩:=h
 rw [e]
 rfl
theorem mC:∀ vs H Q E,(aEn K) vs H Q E→vs.length=2:=by
 intro vs H Q E h
 obtain ⟨_,_,_,_,_,_,e,_⟩:=h
 rw [e]
 rfl
theorem iY:∀ vs H Q E,(aEl K) vs H Q E→vs.length=3:=by
 intro vs H Q E h
 obtain ⟨_,_,_,_,_,_,_,e,_⟩:=h
 rw [e]
 rfl
theorem sU:∀ vs H Q E,(aEm K Pt) vs H Q E→vs.length=2:=by
 intro vs H Q E h
 obtain ⟨_,_,_,_,_,e,_⟩:=h
 rw [e]
 rfl
theorem pH:∀ vs H Q E,(vE K) vs H Q E→vs.length=1:=by
 intro vs H Q E h
 obtain ⟨_,_,e,_⟩:=h
 rw [e]
 rfl
theorem lZ:∀ vs H Q E,oT vs H Q E→vs.length=1:=by
 intro vs H Q E h
 obtain ⟨_,_,_,_,_,e,_⟩:=h
 rw [e]
 rfl
theorem nK:∀ vs H Q E,eZ vs H Q E→vs.length=2:=by
 intro vs H Q E h
 obtain ⟨_,_,_,_,_,_,e,_⟩:=h
 rw [e]
 rfl
theorem mS:∀ vs H Q E,(jC K) vs H Q E→vs.length=3:=by
 intro vs H Q E h
 obtain ⟨_,_,_,_,_,_,_,e,_⟩:=h
 rw [e]
 rfl
theorem nB:∀ vs H Q E,(jF K) vs H Q E→vs.length=2:=by
 intro vs H Q E h
 obtain ⟨_,_,_,_,_,_,e,_⟩:=h
 rw [e]
 rfl
theorem pG:∀ vs H Q E,(aAM K) vs H Q E→vs.length=2:=by
 intro vs H Q E h
 obtain ⟨_,_,_,_,_,e,_⟩:=h
 rw [e]
 rfl
theorem lE:∀ vs H Q E,(fD K Pt) vs H Q E→vs.length=3:=by
 intro vs H Q E h
 obtain ⟨_,_,_,_,_,_,e,_⟩:=h
 rw [e]
 rfl
theorem xA:∀ vs H Q E,(K60.S.spJoin K) vs H Q E→vs.length=2:=by
 intro vs H Q E h
 obtain ⟨_,_,_,e,_⟩:=h
 rw [e]
 rfl
theorem nA:∀ vs H Q E,(K60.S.spLeft K) vs H Q E→vs.length=2:=by
 intro vs H Q E h
 obtain ⟨_,_,_,_,_,e,_⟩:=h
 rw [e]
 rfl
theorem jE:∀ vs H Q E,K60.S.spParts vs H Q E→vs.length=1:=by
 intro vs H Q E h
 obtain ⟨_,e,_⟩:=h
 rw [e]
 rfl
theorem yH:∀ vs H Q E,(K60.S.spOnw K) vs H Q E→vs.length=4:=by
 intro vs H Q E h
 obtain ⟨_,_,_,_,_,_,_,_,_,_,_,e,_⟩:=h
 rw [e]
 rfl
theorem nI:∀ vs H Q E,(K60.S.spRests K) vs H Q E→vs.length=1:=by
 intro vs H Q E h
 obtain ⟨_,_,_,e,_⟩:=h
 rw [e]
 rfl
theorem kE:∀ vs H Q E,(K60.S.spRound K) vs H Q E→vs.length=2:=by
 intro vs H Q E h
 obtain ⟨_,_,_,_,_,_,e,_⟩:=h
 rw [e]
 rfl
theorem sA:∀ vs H Q E,(K60.S.spShort K) vs H Q E→vs.length=1:=by
 intro vs H Q E h
 obtain ⟨_,_,_,e,_⟩:=h
 rw [e]
 rfl
theorem aDp:∀ vs H Q E,zB K Pt vs H Q E→vs.length=1:=fun vs H Q E ⟨a,ns,e,_⟩=>by rw [e];rfl
end
theorem aBv {us:List Value}(h:us.length=1):∃ a0,us=[a0]:=List.length_eq_one_iff.mp h
theorem vI {us:List Value}(h:us.length=2):∃ a0 a1,us=[a0,a1]:=by
 cases us with
 | nil=>cases h
 | cons a0 us=>
 cases us with
 | nil=>cases h
 | cons a1 us=>
 cases us with
 | nil=>exact ⟨a0,a1,rfl⟩
 | cons _ _=>simp at h
theorem aEA {us:List Value}(h:us.length=3):∃ a0 a1 a2,us=[a0,a1,a2]:=by
 cases us with
 | nil=>cases h
 | cons a0 us=>
 cases us with
 | nil=>cases h
 | cons a1 us=>
 cases us with
 | nil=>cases h
 | cons a2 us=>
 cases us with
 | nil=>exact ⟨a0,a1,a2,rfl⟩
 | cons _ _=>simp at h
theorem aFG {us:List Value}(h:us.length=4):∃ a0 a1 a2 a3,us=[a0,a1,a2,a3]:=by
 cases us with
 | nil=>cases h
 | cons a0 us=>
 cases us with
 | nil=>cases h
 | cons a1 us=>
 cases us with
 | nil=>cases h
 | cons a2 us=>
 cases us with
 | nil=>cases h
 | cons a3 us=>
 cases us with
 | nil=>exact ⟨a0,a1,a2,a3,rfl⟩
 | cons _ _=>simp at h
theorem all_mk {cc Pt:Addr}{l:PySem.W.OpenLaw}{w:World}{K:PySem.W.Frag}{h:Heap}{mg:Str→Option Value}{fa:Addr}(X:K.In h)(G:h.Ns mainGlobals mg)(hfa:mg "law" = some (.ref fa))
  {f0:Addr} {od0 an0:Option Addr} {sl0:Array (Option Value)} {oc0 kV0 dc0 pm0 cd0 ct0:Value} (a0:PySem.W.nsIn K mainGlobals "is_whole" = some (some (.ref f0))) (l0:K.lookup f0=some ⟨oc0,od0, .func (PySem.W.fnOf "is_whole" "is_whole" (aY (top 1)) (aT (top 1)) (aG (top 1)) .none kV0 dc0 pm0 an0 cd0 ct0),sl0⟩) (c0:PySem.W.codeIn K cd0 "is_whole" = true) (k0:PySem.W.keepIn K (.ref f0)=true)
  {f1:Addr} {od1 an1:Option Addr} {sl1:Array (Option Value)} {oc1 kV1 dc1 pm1 cd1 ct1:Value} (a1:PySem.W.nsIn K mainGlobals "are_wholes" = some (some (.ref f1))) (l1:K.lookup f1=some ⟨oc1,od1, .func (PySem.W.fnOf "are_wholes" "are_wholes" (aY (top 2)) (aT (top 2)) (aG (top 2)) .none kV1 dc1 pm1 an1 cd1 ct1),sl1⟩) (c1:PySem.W.codeIn K cd1 "are_wholes" = true) (k1:PySem.W.keepIn K (.ref f1)=true)
  {f2:Addr} {od2 an2:Option Addr} {sl2:Array (Option Value)} {oc2 kV2 dc2 pm2 cd2 ct2:Value} (a2:PySem.W.nsIn K mainGlobals "is_round" = some (some (.ref f2))) (l2:K.lookup f2=some ⟨oc2,od2, .func (PySem.W.fnOf "is_round" "is_round" (aY (top 4)) (aT (top 4)) (aG (top 4)) .none kV2 dc2 pm2 an2 cd2 ct2),sl2⟩) (c2:PySem.W.codeIn K cd2 "is_round" = true) (k2:PySem.W.keepIn K (.ref f2)=true)
  {f3:Addr} {od3 an3:Option Addr} {sl3:Array (Option Value)} {oc3 kV3 dc3 pm3 cd3 ct3:Value} (a3:PySem.W.nsIn K mainGlobals "length" = some (some (.ref f3))) (l3:K.lookup f3=some ⟨oc3,od3, .func (PySem.W.fnOf "length" "length" (aY (top 5)) (aT (top 5)) (aG (top 5)) .none kV3 dc3 pm3 an3 cd3 ct3),sl3⟩) (c3:PySem.W.codeIn K cd3 "length" = true) (k3:PySem.W.keepIn K (.ref f3)=true)
  {f4:Addr} {od4 an4:Option Addr} {sl4:Array (Option Value)} {oc4 kV4 dc4 pm4 cd4 ct4:Value} (a4:PySem.W.nsIn K mainGlobals "is_move" = some (some (.ref f4))) (l4:K.lookup f4=some ⟨oc4,od4, .func (PySem.W.fnOf "is_move" "is_move" (aY (top 8)) (aT (top 8)) (aG (top 8)) .none kV4 dc4 pm4 an4 cd4 ct4),sl4⟩) (c4:PySem.W.codeIn K cd4 "is_move" = true) (k4:PySem.W.keepIn K (.ref f4)=true)
  {f5:Addr} {od5 an5:Option Addr} {sl5:Array (Option Value)} {oc5 kV5 dc5 pm5 cd5 ct5:Value} (a5:PySem.W.nsIn K mainGlobals "moves_of" = some (some (.ref f5))) (l5:K.lookup f5=some ⟨oc5,od5, .func (PySem.W.fnOf "moves_of" "moves_of" (aY (top 9)) (aT (top 9)) (aG (top 9)) .none kV5 dc5 pm5 an5 cd5 ct5),sl5⟩) (c5:PySem.W.codeIn K cd5 "moves_of" = true) (k5:PySem.W.keepIn K (.ref f5)=true)
  {f6:Addr} {od6 an6:Option Addr} {sl6:Array (Option Value)} {oc6 kV6 dc6 pm6 cd6 ct6:Value} (a6:PySem.W.nsIn K mainGlobals "moves_of_stretch" = some (some (.ref f6))) (l6:K.lookup f6=some ⟨oc6,od6, .func (PySem.W.fnOf "moves_of_stretch" "moves_of_stretch" (aY (top 10)) (aT (top 10)) (aG (top 10)) .none kV6 dc6 pm6 an6 cd6 ct6),sl6⟩) (c6:PySem.W.codeIn K cd6 "moves_of_stretch" = true) (k6:PySem.W.keepIn K (.ref f6)=true)
  {f7:Addr} {od7 an7:Option Addr} {sl7:Array (Option Value)} {oc7 kV7 dc7 pm7 cd7 ct7:Value} (a7:PySem.W.nsIn K mainGlobals "shorter_moves" = some (some (.ref f7))) (l7:K.lookup f7=some ⟨oc7,od7, .func (PySem.W.fnOf "shorter_moves" "shorter_moves" (aY (top 11)) (aT (top 11)) (aG (top 11)) .none kV7 dc7 pm7 an7 cd7 ct7),sl7⟩) (c7:PySem.W.codeIn K cd7 "shorter_moves" = true) (k7:PySem.W.keepIn K (.ref f7)=true)
  {f8:Addr} {od8 an8:Option Addr} {sl8:Array (Option Value)} {oc8 kV8 dc8 pm8 cd8 ct8:Value} (a8:PySem.W.nsIn K mainGlobals "is_settled" = some (some (.ref f8))) (l8:K.lookup f8=some ⟨oc8,od8, .func (PySem.W.fnOf "is_settled" "is_settled" (aY (top 12)) (aT (top 12)) (aG (top 12)) .none kV8 dc8 pm8 an8 cd8 ct8),sl8⟩) (c8:PySem.W.codeIn K cd8 "is_settled" = true) (k8:PySem.W.keepIn K (.ref f8)=true)
  {f9:Addr} {od9 an9:Option Addr} {sl9:Array (Option Value)} {oc9 kV9 dc9 pm9 ct9:Value} (a9:PySem.W.nsIn K mainGlobals "bettered" = some (some (.ref f9))) (l9:K.lookup f9=some ⟨oc9,od9, .func (PySem.W.fnOf "bettered" "bettered" (aY (top 13)) (aT (top 13)) (aG (top 13)) .none kV9 dc9 pm9 an9 (.ref cc) ct9),sl9⟩) (c9:PySem.W.codeIn K (.ref cc) "bettered" = true) (k9:PySem.W.keepIn K (.ref f9)=true)
  {f10:Addr} {od10 an10:Option Addr} {sl10:Array (Option Value)} {oc10 kV10 dc10 pm10 cd10 ct10:Value} (a10:PySem.W.nsIn K mainGlobals "are_bettered" = some (some (.ref f10))) (l10:K.lookup f10=some ⟨oc10,od10, .func (PySem.W.fnOf "are_bettered" "are_bettered" (aY (top 14)) (aT (top 14)) (aG (top 14)) .none kV10 dc10 pm10 an10 cd10 ct10),sl10⟩) (c10:PySem.W.codeIn K cd10 "are_bettered" = true) (k10:PySem.W.keepIn K (.ref f10)=true)
  {f11:Addr} {od11 an11:Option Addr} {sl11:Array (Option Value)} {oc11 kV11 dc11 pm11 cd11 ct11:Value} (a11:PySem.W.nsIn K mainGlobals "is_shorter_move" = some (some (.ref f11))) (l11:K.lookup f11=some ⟨oc11,od11, .func (PySem.W.fnOf "is_shorter_move" "is_shorter_move" (aY (top 15)) (aT (top 15)) (aG (top 15)) .none kV11 dc11 pm11 an11 cd11 ct11),sl11⟩) (c11:PySem.W.codeIn K cd11 "is_shorter_move" = true) (k11:PySem.W.keepIn K (.ref f11)=true)
  {f12:Addr} {od12 an12:Option Addr} {sl12:Array (Option Value)} {oc12 kV12 dc12 pm12 cd12 ct12:Value} (a12:PySem.W.nsIn K mainGlobals "shortest" = some (some (.ref f12))) (l12:K.lookup f12=some ⟨oc12,od12, .func (PySem.W.fnOf "shortest" "shortest" (aY (top 18)) (aT (top 18)) (aG (top 18)) .none kV12 dc12 pm12 an12 cd12 ct12),sl12⟩) (c12:PySem.W.codeIn K cd12 "shortest" = true) (k12:PySem.W.keepIn K (.ref f12)=true)
  {f13:Addr} {od13 an13:Option Addr} {sl13:Array (Option Value)} {oc13 kV13 dc13 pm13 cd13 ct13:Value} (a13:PySem.W.nsIn K mainGlobals "least_rests" = some (some (.ref f13))) (l13:K.lookup f13=some ⟨oc13,od13, .func (PySem.W.fnOf "least_rests" "least_rests" (aY (top 19)) (aT (top 19)) (aG (top 19)) .none kV13 dc13 pm13 an13 cd13 ct13),sl13⟩) (c13:PySem.W.codeIn K cd13 "least_rests" = true) (k13:PySem.W.keepIn K (.ref f13)=true)
  {f14:Addr} {od14 an14:Option Addr} {sl14:Array (Option Value)} {oc14 kV14 dc14 pm14 cd14 ct14:Value} (a14:PySem.W.nsIn K mainGlobals "parts_with_home" = some (some (.ref f14))) (l14:K.lookup f14=some ⟨oc14,od14, .func (PySem.W.fnOf "parts_with_home" "parts_with_home" (aY (top 20)) (aT (top 20)) (aG (top 20)) .none kV14 dc14 pm14 an14 cd14 ct14),sl14⟩) (c14:PySem.W.codeIn K cd14 "parts_with_home" = true) (k14:PySem.W.keepIn K (.ref f14)=true)
  {f15:Addr} {od15 an15:Option Addr} {sl15:Array (Option Value)} {oc15 kV15 dc15 pm15 cd15 ct15:Value} (a15:PySem.W.nsIn K mainGlobals "joined" = some (some (.ref f15))) (l15:K.lookup f15=some ⟨oc15,od15, .func (PySem.W.fnOf "joined" "joined" (aY (top 21)) (aT (top 21)) (aG (top 21)) .none kV15 dc15 pm15 an15 cd15 ct15),sl15⟩) (c15:PySem.W.codeIn K cd15 "joined" = true) (k15:PySem.W.keepIn K (.ref f15)=true)
  {f16:Addr} {od16 an16:Option Addr} {sl16:Array (Option Value)} {oc16 kV16 dc16 pm16 cd16 ct16:Value} (a16:PySem.W.nsIn K mainGlobals "places_left" = some (some (.ref f16))) (l16:K.lookup f16=some ⟨oc16,od16, .func (PySem.W.fnOf "places_left" "places_left" (aY (top 22)) (aT (top 22)) (aG (top 22)) .none kV16 dc16 pm16 an16 cd16 ct16),sl16⟩) (c16:PySem.W.codeIn K cd16 "places_left" = true) (k16:PySem.W.keepIn K (.ref f16)=true)
  {f17:Addr} {od17 an17:Option Addr} {sl17:Array (Option Value)} {oc17 kV17 dc17 pm17 cd17 ct17:Value} (a17:PySem.W.nsIn K mainGlobals "onward" = some (some (.ref f17))) (l17:K.lookup f17=some ⟨oc17,od17, .func (PySem.W.fnOf "onward" "onward" (aY (top 23)) (aT (top 23)) (aG (top 23)) .none kV17 dc17 pm17 an17 cd17 ct17),sl17⟩) (c17:PySem.W.codeIn K cd17 "onward" = true) (k17:PySem.W.keepIn K (.ref f17)=true)
  {f18:Addr} {od18 an18:Option Addr} {sl18:Array (Option Value)} {oc18 kV18 dc18 pm18 cd18 ct18:Value} (a18:PySem.W.nsIn K mainGlobals "round_by_rests" = some (some (.ref f18))) (l18:K.lookup f18=some ⟨oc18,od18, .func (PySem.W.fnOf "round_by_rests" "round_by_rests" (aY (top 24)) (aT (top 24)) (aG (top 24)) .none kV18 dc18 pm18 an18 cd18 ct18),sl18⟩) (c18:PySem.W.codeIn K cd18 "round_by_rests" = true) (k18:PySem.W.keepIn K (.ref f18)=true)
  {f19:Addr} {od19 an19:Option Addr} {sl19:Array (Option Value)} {oc19 kV19 dc19 pm19 cd19 ct19:Value} (a19:PySem.W.nsIn K mainGlobals "_law_e_pen" = some (some (.ref f19))) (l19:K.lookup f19=some ⟨oc19,od19, .func (PySem.W.fnOf "_law_e_pen" "_law_e_pen" (aY (top 26)) (aT (top 26)) (aG (top 26)) .none kV19 dc19 pm19 an19 cd19 ct19),sl19⟩) (c19:PySem.W.codeIn K cd19 "_law_e_pen" = true) (k19:PySem.W.keepIn K (.ref f19)=true)
  {f20:Addr} {od20 an20:Option Addr} {sl20:Array (Option Value)} {oc20 kV20 dc20 pm20 cd20 ct20:Value} (a20:PySem.W.nsIn K mainGlobals "_law_e_fresh" = some (some (.ref f20))) (l20:K.lookup f20=some ⟨oc20,od20, .func (PySem.W.fnOf "_law_e_fresh" "_law_e_fresh" (aY (top 27)) (aT (top 27)) (aG (top 27)) .none kV20 dc20 pm20 an20 cd20 ct20),sl20⟩) (c20:PySem.W.codeIn K cd20 "_law_e_fresh" = true) (k20:PySem.W.keepIn K (.ref f20)=true)
  {f21:Addr} {od21 an21:Option Addr} {sl21:Array (Option Value)} {oc21 kV21 dc21 pm21 cd21 ct21:Value} (a21:PySem.W.nsIn K mainGlobals "_law_e_take" = some (some (.ref f21))) (l21:K.lookup f21=some ⟨oc21,od21, .func (PySem.W.fnOf "_law_e_take" "_law_e_take" (aY (top 28)) (aT (top 28)) (aG (top 28)) .none kV21 dc21 pm21 an21 cd21 ct21),sl21⟩) (c21:PySem.W.codeIn K cd21 "_law_e_take" = true) (k21:PySem.W.keepIn K (.ref f21)=true)
  {f22:Addr} {od22 an22:Option Addr} {sl22:Array (Option Value)} {oc22 kV22 dc22 pm22 cd22 ct22:Value} (a22:PySem.W.nsIn K mainGlobals "_law_e_table" = some (some (.ref f22))) (l22:K.lookup f22=some ⟨oc22,od22, .func (PySem.W.fnOf "_law_e_table" "_law_e_table" (aY (top 29)) (aT (top 29)) (aG (top 29)) .none kV22 dc22 pm22 an22 cd22 ct22),sl22⟩) (c22:PySem.W.codeIn K cd22 "_law_e_table" = true) (k22:PySem.W.keepIn K (.ref f22)=true)
  {f23:Addr} {od23 an23:Option Addr} {sl23:Array (Option Value)} {oc23 kV23 dc23 pm23 cd23 ct23:Value} (a23:PySem.W.nsIn K mainGlobals "_law_e_tour" = some (some (.ref f23))) (l23:K.lookup f23=some ⟨oc23,od23, .func (PySem.W.fnOf "_law_e_tour" "_law_e_tour" (aY (top 30)) (aT (top 30)) (aG (top 30)) .none kV23 dc23 pm23 an23 cd23 ct23),sl23⟩) (c23:PySem.W.codeIn K cd23 "_law_e_tour" = true) (k23:PySem.W.keepIn K (.ref f23)=true)
  {f24:Addr} {od24 an24:Option Addr} {sl24:Array (Option Value)} {oc24 kV24 dc24 pm24 cd24 ct24:Value} (a24:PySem.W.nsIn K mainGlobals "_law_e_sum" = some (some (.ref f24))) (l24:K.lookup f24=some ⟨oc24,od24, .func (PySem.W.fnOf "_law_e_sum" "_law_e_sum" (aY (top 31)) (aT (top 31)) (aG (top 31)) .none kV24 dc24 pm24 an24 cd24 ct24),sl24⟩) (c24:PySem.W.codeIn K cd24 "_law_e_sum" = true) (k24:PySem.W.keepIn K (.ref f24)=true)
  {f25:Addr} {od25 an25:Option Addr} {sl25:Array (Option Value)} {oc25 kV25 dc25 pm25 cd25 ct25:Value} (a25:PySem.W.nsIn K mainGlobals "_law_e_right" = some (some (.ref f25))) (l25:K.lookup f25=some ⟨oc25,od25, .func (PySem.W.fnOf "_law_e_right" "_law_e_right" (aY (top 32)) (aT (top 32)) (aG (top 32)) .none kV25 dc25 pm25 an25 cd25 ct25),sl25⟩) (c25:PySem.W.codeIn K cd25 "_law_e_right" = true) (k25:PySem.W.keepIn K (.ref f25)=true)
  {f26:Addr} {od26 an26:Option Addr} {sl26:Array (Option Value)} {oc26 kV26 dc26 pm26 cd26 ct26:Value} (a26:PySem.W.nsIn K mainGlobals "law" = some (some (.ref f26))) (l26:K.lookup f26=some ⟨oc26,od26, .func (PySem.W.fnOf "law" "law" (aY (top 33)) (aT (top 33)) (aG (top 33)) .none kV26 dc26 pm26 an26 cd26 ct26),sl26⟩) (c26:PySem.W.codeIn K cd26 "law" = true) (k26:PySem.W.keepIn K (.ref f26)=true)
  (z_len:PySem.W.nsIn K mainGlobals "len" = some none)
  (z_all:PySem.W.nsIn K mainGlobals "all" = some none)
  (z_min:PySem.W.nsIn K mainGlobals "min" = some none)
  (z_max:PySem.W.nsIn K mainGlobals "max" = some none)
  (z_sum:PySem.W.nsIn K mainGlobals "sum" = some none)
  (z_isinstance:PySem.W.nsIn K mainGlobals "isinstance" = some none)
  (z_sorted:PySem.W.nsIn K mainGlobals "sorted" = some none)
  (z_tuple:PySem.W.nsIn K mainGlobals "tuple" = some none)
  (z_list:PySem.W.nsIn K mainGlobals "list" = some none)
  (z_range:PySem.W.nsIn K mainGlobals "range" = some none)
  (z_int:PySem.W.nsIn K mainGlobals "int" = some none)
  (z_bool:PySem.W.nsIn K mainGlobals "bool" = some none)
  (z_zip:PySem.W.nsIn K mainGlobals "zip" = some none)
  (z_repr:PySem.W.nsIn K mainGlobals "repr" = some none)
  (z_enumerate:PySem.W.nsIn K mainGlobals "enumerate" = some none)
  (z_reversed:PySem.W.nsIn K mainGlobals "reversed" = some none)
  (z_str:PySem.W.nsIn K mainGlobals "str" = some none)
  (z_set:PySem.W.nsIn K mainGlobals "set" = some none)
  (z_abs:PySem.W.nsIn K mainGlobals "abs" = some none)
  {tk_LONGEST_MOVED:Tok} (g_LONGEST_MOVED:PySem.W.nsIn K mainGlobals "LONGEST_MOVED" = some (some (.int 3 tk_LONGEST_MOVED)))
  {C_START:Addr} (ac_START:PySem.W.nsIn K mainGlobals "START" = some (some (.ref C_START)))
  {bS:Addr} {nS nT:Nat} {slS slT:Array (Option Value)} {tS tT:Tok}
  (lS:K.lookup C_START=some ⟨.type "tuple",none, .seq #[.ref bS, .int 0 tS] nS,slS⟩)
  (lT:K.lookup bS=some ⟨.type "tuple",none, .seq #[.int 0 tT] nT,slT⟩) :
  ∃ fd:FuncData,(∀ (s:Shared) (v:Value),BindsTo s fd ⟨[v],[]⟩ [("script",v)])∧∀ base:Heap,K.In base→base.Ns mainGlobals mg→aAm mg base→PySem.W.CodeHd base cc Pt→FnOk l.prog w K mg base CX0 7 fa fd ["script"] (zB K Pt):=by
 have e:=hfa.symm.trans (PySem.W.mg_of X G a26)
 cases e
 have B:jO mg:=⟨⟨⟨⟨PySem.W.mg_none_of X G z_len,PySem.W.mg_none_of X G z_all,PySem.W.mg_none_of X G z_min,PySem.W.mg_none_of X G z_max,PySem.W.mg_none_of X G z_sum,PySem.W.mg_none_of X G z_isinstance,PySem.W.mg_none_of X G z_sorted,PySem.W.mg_none_of X G z_tuple,PySem.W.mg_none_of X G z_list,PySem.W.mg_none_of X G z_range,PySem.W.mg_none_of X G z_int,PySem.W.mg_none_of X G z_bool⟩,PySem.W.mg_none_of X G z_zip,PySem.W.mg_none_of X G z_repr,PySem.W.mg_none_of X G z_enumerate,PySem.W.mg_none_of X G z_reversed,PySem.W.mg_none_of X G z_str⟩,PySem.W.mg_none_of X G z_set⟩,PySem.W.mg_none_of X G z_abs⟩
 have G_LONGEST_MOVED:=PySem.W.mg_of X G g_LONGEST_MOVED
 have GC_START:=PySem.W.mg_of X G ac_START
 have hS:∀ H,KeyQ K H (K60.S.kc ([0],0)) C_START:=fun H=>⟨bS, .inr ⟨_,_,_,lS,rfl,rfl,rfl,by show 2≤sizeLine;decide, .cons rfl (.cons ⟨_,rfl⟩ .nil)⟩, .inr ⟨_,_,_,lT,rfl,rfl,rfl,by show 1≤sizeLine;decide, .cons ⟨_,rfl⟩ .nil⟩⟩
 have F0:=bU (st:=top 1) l0 c0 k0
 have b0:=F0.binds (ps:=["thing"]) fun _ _ _ _ _ _ us hl=>by obtain ⟨_,rfl⟩:=aBv hl;rfl
 have F1:=bU (st:=top 2) l1 c1 k1
 have b1:=F1.binds (ps:=["thing"]) fun _ _ _ _ _ _ us hl=>by obtain ⟨_,rfl⟩:=aBv hl;rfl
 have F2:=bU (st:=top 4) l2 c2 k2
 have b2:=F2.binds (ps:=["table","thing"]) fun _ _ _ _ _ _ us hl=>by obtain ⟨_,_,rfl⟩:=vI hl;rfl
 have F3:=bU (st:=top 5) l3 c3 k3
 have b3:=F3.binds (ps:=["table","round_"]) fun _ _ _ _ _ _ us hl=>by obtain ⟨_,_,rfl⟩:=vI hl;rfl
 have F4:=bU (st:=top 8) l4 c4 k4
 have b4:=F4.binds (ps:=["one","other"]) fun _ _ _ _ _ _ us hl=>by obtain ⟨_,_,rfl⟩:=vI hl;rfl
 have F5:=bU (st:=top 9) l5 c5 k5
 have b5:=F5.binds (ps:=["round_"]) fun _ _ _ _ _ _ us hl=>by obtain ⟨_,rfl⟩:=aBv hl;rfl
 have F6:=bU (st:=top 10) l6 c6 k6
 have b6:=F6.binds (ps:=["round_","start","stop"]) fun _ _ _ _ _ _ us hl=>by obtain ⟨_,_,_,rfl⟩:=aEA hl;rfl
 have F7:=bU (st:=top 11) l7 c7 k7
 have b7:=F7.binds (ps:=["table","round_"]) fun _ _ _ _ _ _ us hl=>by obtain ⟨_,_,rfl⟩:=vI hl;rfl
 have F8:=bU (st:=top 12) l8 c8 k8
 have b8:=F8.binds (ps:=["table","round_"]) fun _ _ _ _ _ _ us hl=>by obtain ⟨_,_,rfl⟩:=vI hl;rfl
 have F9:=bU (st:=top 13) l9 c9 k9
 have b9:=F9.binds (ps:=["table","round_"]) fun _ _ _ _ _ _ us hl=>by obtain ⟨_,_,rfl⟩:=vI hl;rfl
 have F10:=bU (st:=top 14) l10 c10 k10
 have b10:=F10.binds (ps:=["table","some"]) fun _ _ _ _ _ _ us hl=>by obtain ⟨_,_,rfl⟩:=vI hl;rfl
 have F11:=bU (st:=top 15) l11 c11 k11
 have b11:=F11.binds (ps:=["table","one","other"]) fun _ _ _ _ _ _ us hl=>by obtain ⟨_,_,_,rfl⟩:=aEA hl;rfl
 have F12:=bU (st:=top 18) l12 c12 k12
 have b12:=F12.binds (ps:=["table"]) fun _ _ _ _ _ _ us hl=>by obtain ⟨_,rfl⟩:=aBv hl;rfl
 have F13:=bU (st:=top 19) l13 c13 k13
 have b13:=F13.binds (ps:=["table"]) fun _ _ _ _ _ _ us hl=>by obtain ⟨_,rfl⟩:=aBv hl;rfl
 have F14:=bU (st:=top 20) l14 c14 k14
 have b14:=F14.binds (ps:=["many"]) fun _ _ _ _ _ _ us hl=>by obtain ⟨_,rfl⟩:=aBv hl;rfl
 have F15:=bU (st:=top 21) l15 c15 k15
 have b15:=F15.binds (ps:=["some","place"]) fun _ _ _ _ _ _ us hl=>by obtain ⟨_,_,rfl⟩:=vI hl;rfl
 have F16:=bU (st:=top 22) l16 c16 k16
 have b16:=F16.binds (ps:=["table","some"]) fun _ _ _ _ _ _ us hl=>by obtain ⟨_,_,rfl⟩:=vI hl;rfl
 have F17:=bU (st:=top 23) l17 c17 k17
 have b17:=F17.binds (ps:=["table","rests","some","last"]) fun _ _ _ _ _ _ us hl=>by obtain ⟨_,_,_,_,rfl⟩:=aFG hl;rfl
 have F18:=bU (st:=top 24) l18 c18 k18
 have b18:=F18.binds (ps:=["table","rests"]) fun _ _ _ _ _ _ us hl=>by obtain ⟨_,_,rfl⟩:=vI hl;rfl
 have F19:=bU (st:=top 26) l19 c19 k19
 have b19:=F19.binds (ps:=["script"]) fun _ _ _ _ _ _ us hl=>by obtain ⟨_,rfl⟩:=aBv hl;rfl
 have F20:=bU (st:=top 27) l20 c20 k20
 have b20:=F20.binds (ps:=["pen"]) fun _ _ _ _ _ _ us hl=>by obtain ⟨_,rfl⟩:=aBv hl;rfl
 have F21:=bU (st:=top 28) l21 c21 k21
 have b21:=F21.binds (ps:=["pen","many"]) fun _ _ _ _ _ _ us hl=>by obtain ⟨_,_,rfl⟩:=vI hl;rfl
 have F22:=bU (st:=top 29) l22 c22 k22
 have b22:=F22.binds (ps:=["pen","many","even"]) fun _ _ _ _ _ _ us hl=>by obtain ⟨_,_,_,rfl⟩:=aEA hl;rfl
 have F23:=bU (st:=top 30) l23 c23 k23
 have b23:=F23.binds (ps:=["pen","many"]) fun _ _ _ _ _ _ us hl=>by obtain ⟨_,_,rfl⟩:=vI hl;rfl
 have F24:=bU (st:=top 31) l24 c24 k24
 have b24:=F24.binds (ps:=["table","told"]) fun _ _ _ _ _ _ us hl=>by obtain ⟨_,_,rfl⟩:=vI hl;rfl
 have F25:=bU (st:=top 32) l25 c25 k25
 have b25:=F25.binds (ps:=["table","told","is_small"]) fun _ _ _ _ _ _ us hl=>by obtain ⟨_,_,_,rfl⟩:=aEA hl;rfl
 have F26:=bU (st:=top 33) l26 c26 k26
 refine ⟨PySem.W.fnOf "law" "law" (aY (top 33)) (aT (top 33)) (aG (top 33)) .none kV26 dc26 pm26 an26 cd26 ct26,fun s v => .of_eq rfl,fun base _ _ HB HC=>?_⟩
 have kF:Def l.prog w K mg base "is_whole" 1 ["thing"] (K60.L.spW K):=⟨f0,_,sY (P:=l.prog) (w:=w) (base:=base) F0 B   tI (K60.L.rd_whole),PySem.W.mg_of X G a0,k0,b0⟩
 have cV:Def l.prog w K mg base "length" 1 ["table","round_"] (aCL K):=⟨f3,_,yK (P:=l.prog) (w:=w) (base:=base) F3 B   wD (aEM),PySem.W.mg_of X G a3,k3,b3⟩
 have cU:Def l.prog w K mg base "moves_of_stretch" 1 ["round_","start","stop"] (xQ K):=⟨f6,_,iA (P:=l.prog) (w:=w) (base:=base) F6 B G_LONGEST_MOVED  iC (aDW),PySem.W.mg_of X G a6,k6,b6⟩
 have dF:Def l.prog w K mg base "parts_with_home" 1 ["many"] (K60.S.spParts):=⟨f14,_,iL (P:=l.prog) (w:=w) (base:=base) F14 B   jE (K60.S.rd_parts),PySem.W.mg_of X G a14,k14,b14⟩
 have qA:Def l.prog w K mg base "joined" 1 ["some","place"] (K60.S.spJoin K):=⟨f15,_,xN (P:=l.prog) (w:=w) (base:=base) F15 B   xA (K60.S.rd_join),PySem.W.mg_of X G a15,k15,b15⟩
 have fN:Def l.prog w K mg base "places_left" 1 ["table","some"] (K60.S.spLeft K):=⟨f16,_,nL (P:=l.prog) (w:=w) (base:=base) F16 B   nA (K60.S.rd_left),PySem.W.mg_of X G a16,k16,b16⟩
 have gF:Def l.prog w K mg base "_law_e_pen" 1 ["script"] (vE K):=⟨f19,_,pV (P:=l.prog) (w:=w) (base:=base) F19 B   pH (aDF),PySem.W.mg_of X G a19,k19,b19⟩
 have eO:Def l.prog w K mg base "_law_e_fresh" 1 ["pen"] (oT):=⟨f20,_,mK (P:=l.prog) (w:=w) (base:=base) F20 B   lZ (aAg),PySem.W.mg_of X G a20,k20,b20⟩
 have eJ:Def l.prog w K mg base "_law_e_sum" 1 ["table","told"] (aAM K):=⟨f24,_,pP (P:=l.prog) (w:=w) (base:=base) F24 B   pG (aDt),PySem.W.mg_of X G a24,k24,b24⟩
 have gE:Def l.prog w K mg base "are_wholes" 2 ["thing"] (K60.L.spWs K):=⟨f1,_,pW (P:=l.prog) (w:=w) (base:=base) F1 B  kF oM (K60.L.rd_wholes),PySem.W.mg_of X G a1,k1,b1⟩
 have dN:Def l.prog w K mg base "moves_of" 2 ["round_"] (mJ K):=⟨f5,_,tE (P:=l.prog) (w:=w) (base:=base) F5 B  cU sV (aAF),PySem.W.mg_of X G a5,k5,b5⟩
 have gO:Def l.prog w K mg base "onward" 2 ["table","rests","some","last"] (K60.S.spOnw K):=⟨f17,_,xY (P:=l.prog) (w:=w) (base:=base) F17 B  qA fN yH (K60.S.rd_onw),PySem.W.mg_of X G a17,k17,b17⟩
 have aZ:Def l.prog w K mg base "_law_e_take" 2 ["pen","many"] (eZ):=⟨f21,_,nG (P:=l.prog) (w:=w) (base:=base) F21 B  eO nK (aBT),PySem.W.mg_of X G a21,k21,b21⟩
 have kG:Def l.prog w K mg base "is_round" 3 ["table","thing"] (K60.L.spRound K):=⟨f2,_,sE (P:=l.prog) (w:=w) (base:=base) F2 B  gE sX (K60.L.rd_round),PySem.W.mg_of X G a2,k2,b2⟩
 have mW:Def l.prog w K mg base "is_move" 3 ["one","other"] (aEz K):=⟨f4,_,uT (P:=l.prog) (w:=w) (base:=base) F4 B  dN uX (aEZ),PySem.W.mg_of X G a4,k4,b4⟩
 have bP:Def l.prog w K mg base "shorter_moves" 3 ["table","round_"] (K60.spShort K):=⟨f7,_,kS (P:=l.prog) (w:=w) (base:=base) F7 B  cV dN kU (K60.rd_short),PySem.W.mg_of X G a7,k7,b7⟩
 have fM:Def l.prog w K mg base "least_rests" 3 ["table"] (K60.S.spRests K):=⟨f13,_,nJ (P:=l.prog) (w:=w) (base:=base) F13 B  gO dF nI (K60.S.rd_rests),PySem.W.mg_of X G a13,k13,b13⟩
 have dI:Def l.prog w K mg base "round_by_rests" 3 ["table","rests"] (K60.S.spRound K):=⟨f18,_,jW (P:=l.prog) (w:=w) (base:=base) F18 B  gO kE (K60.S.rd_round),PySem.W.mg_of X G a18,k18,b18⟩
 have eS:Def l.prog w K mg base "_law_e_table" 3 ["pen","many","even"] (jC K):=⟨f22,_,lJ (P:=l.prog) (w:=w) (base:=base) F22 B  aZ mS (aCs),PySem.W.mg_of X G a22,k22,b22⟩
 have fQ:Def l.prog w K mg base "_law_e_tour" 3 ["pen","many"] (jF K):=⟨f23,_,nD (P:=l.prog) (w:=w) (base:=base) F23 B  aZ nB (aCt),PySem.W.mg_of X G a23,k23,b23⟩
 have bY:Def l.prog w K mg base "is_settled" 4 ["table","round_"] (yO K):=⟨f8,_,pA (P:=l.prog) (w:=w) (base:=base) F8 B  bP pZ (aCS),PySem.W.mg_of X G a8,k8,b8⟩
 have gP:Def l.prog w K mg base "bettered" 4 ["table","round_"] (aEm K Pt):=⟨f9,_,rZ (P:=l.prog) (w:=w) (base:=base) F9 B HB HC rfl  cV bP sU (aEI),PySem.W.mg_of X G a9,k9,b9⟩
 have dE:Def l.prog w K mg base "is_shorter_move" 4 ["table","one","other"] (aEl K):=⟨f11,_,iT (P:=l.prog) (w:=w) (base:=base) F11 B  mW cV iY (aEJ),PySem.W.mg_of X G a11,k11,b11⟩
 have kH:Def l.prog w K mg base "shortest" 4 ["table"] (K60.S.spShort K):=⟨f12,_,tF (P:=l.prog) (w:=w) (base:=base) F12 B GC_START fM dI sA (K60.S.rd_short hS),PySem.W.mg_of X G a12,k12,b12⟩
 have eQ:Def l.prog w K mg base "are_bettered" 5 ["table","some"] (aEn K):=⟨f10,_,lD (P:=l.prog) (w:=w) (base:=base) F10 B  bY dE mC (aFa),PySem.W.mg_of X G a10,k10,b10⟩
 have eR:Def l.prog w K mg base "_law_e_right" 6 ["table","told","is_small"] (fD K Pt):=⟨f25,_,mU (P:=l.prog) (w:=w) (base:=base) F25 B  eJ eQ gP kG bY kH lE (aAL),PySem.W.mg_of X G a25,k25,b25⟩
 exact aDh (P:=l.prog) (w:=w) (base:=base) F26 B  gF eR eS aZ fQ aDp (aDI)
theorem walk {cc Pt:Addr}{l:PySem.W.OpenLaw}{q:Program}{loose:List Str}{XP:(Str→Option Value)→Heap→Prop}{YP:World→Heap→Prop}{d:DefRec}{K:Params→PySem.W.Frag}(hn:l.most=some 63)(hdf:d.params.defaults=[])
  (hY:∀ (w:World) (h:Heap),YP w h→(K w.params).In h) (hYt:∀ (w:World) (h:Heap),YP w h→h.get? Pt=some (PySem.W.tabObj #[])) (hCd:∀ w:World,PySem.W.codeHdIn (K w.params) cc Pt=true) (hKP:∀ w:World,(K w.params).lookup Pt=none)
  (F:∀ (w:World) (mg:Str→Option Value) (fa:Addr) (h:Heap),(K w.params).In h→h.Ns mainGlobals mg→mg d.name=some (.ref fa) →
   ∃ fd:FuncData,(∀ (s:Shared) (u:Value),BindsTo s fd ⟨[u],[]⟩ [("script",u)])∧∀ base:Heap,(K w.params).In base→base.Ns mainGlobals mg→aAm mg base→PySem.W.CodeHd base cc Pt→FnOk l.prog w (K w.params) mg base CX0 7 fa fd ["script"] (zB (K w.params) Pt)) :
  PySem.W.WalkO q loose XP YP l.row.toRowW d [] (fun f vs=>PySem.call f vs):=
 L2.aAz (cc:=cc) (Pt:=Pt) (n:=63) (k:=7) (x:="script") (CX:=fun _=>CX0) (sp:=fun w=>zB (K w.params) Pt) hn (by decide) hdf ⟨rfl,by decide,by decide,rfl⟩ hY hYt hCd hKP F (fun _ _ a ns hl hT hS=>⟨a,ns,rfl,hS,hl,hT,fun _=>rfl⟩) fun _ _ _ _ _ z=>z
end K60
open PySem PySem.W PyProof.Rows
noncomputable def PySem.W.Fast.tw10080414019862717459 : Nat := 0
noncomputable def PySem.W.Fast.tw1021468272821965555 : Nat := 0
noncomputable def PySem.W.Fast.tw5592746801095322027 : Nat := 0
noncomputable def PySem.W.Fast.tw5964823732742473536 : Nat := 0
set_option maxRecDepth 100000 in
set_option maxHeartbeats 0 in
theorem PySem.Challenge.cw_homeround_k60_whole_settled_ones_holds : PySem.Challenge.rw_homeround_k60_whole_settled_ones.Holds := by
  w_on; o_law; k_head; (case hw => w_witness2)
  k_fill
  refine' K60.walk (l := PySem.Challenge.rw_homeround_k60_whole_settled_ones) rfl rfl (fun w h Y => PySem.W.km_in_of Y) (fun w h Y => PySem.W.km_tabs_of Y _ (List.mem_cons_self ..)) ?hCd ?hKP ?F
  case F =>
    intro w mg fa h KX G hmg
    refine' K60.all_mk KX G hmg ?a0 ?l0 ?c0 ?k0 ?a1 ?l1 ?c1 ?k1 ?a2 ?l2 ?c2 ?k2 ?a3 ?l3 ?c3 ?k3 ?a4 ?l4 ?c4 ?k4 ?a5 ?l5 ?c5 ?k5 ?a6 ?l6 ?c6 ?k6 ?a7 ?l7 ?c7 ?k7 ?a8 ?l8 ?c8 ?k8 ?a9 ?l9 ?c9 ?k9 ?a10 ?l10 ?c10 ?k10 ?a11 ?l11 ?c11 ?k11 ?a12 ?l12 ?c12 ?k12 ?a13 ?l13 ?c13 ?k13 ?a14 ?l14 ?c14 ?k14 ?a15 ?l15 ?c15 ?k15 ?a16 ?l16 ?c16 ?k16 ?a17 ?l17 ?c17 ?k17 ?a18 ?l18 ?c18 ?k18 ?a19 ?l19 ?c19 ?k19 ?a20 ?l20 ?c20 ?k20 ?a21 ?l21 ?c21 ?k21 ?a22 ?l22 ?c22 ?k22 ?a23 ?l23 ?c23 ?k23 ?a24 ?l24 ?c24 ?k24 ?a25 ?l25 ?c25 ?k25 ?a26 ?l26 ?c26 ?k26 ?z_len ?z_all ?z_min ?z_max ?z_sum ?z_isinstance ?z_sorted ?z_tuple ?z_list ?z_range ?z_int ?z_bool ?z_zip ?z_repr ?z_enumerate ?z_reversed ?z_str ?z_set ?z_abs ?g_LONGEST_MOVED ?ac_START ?lS ?lT
    (case a0 => k_is)
    (case l0 => k_is)
    (case c0 => k_is)
    (case k0 => k_is)
    (case a1 => k_is)
    (case l1 => k_is)
    (case c1 => k_is)
    (case k1 => k_is)
    (case a2 => k_is)
    (case l2 => k_is)
    (case c2 => k_is)
    (case k2 => k_is)
    (case a3 => k_is)
    (case l3 => k_is)
    (case c3 => k_is)
    (case k3 => k_is)
    (case a4 => k_is)
    (case l4 => k_is)
    (case c4 => k_is)
    (case k4 => k_is)
    (case a5 => k_is)
    (case l5 => k_is)
    (case c5 => k_is)
    (case k5 => k_is)
    (case a6 => k_is)
    (case l6 => k_is)
    (case c6 => k_is)
    (case k6 => k_is)
    (case a7 => k_is)
    (case l7 => k_is)
    (case c7 => k_is)
    (case k7 => k_is)
    (case a8 => k_is)
    (case l8 => k_is)
    (case c8 => k_is)
    (case k8 => k_is)
    (case a9 => k_is)
    (case l9 => k_is)
    (case c9 => k_is)
    (case k9 => k_is)
    (case a10 => k_is)
    (case l10 => k_is)
    (case c10 => k_is)
    (case k10 => k_is)
    (case a11 => k_is)
    (case l11 => k_is)
    (case c11 => k_is)
    (case k11 => k_is)
    (case a12 => k_is)
    (case l12 => k_is)
    (case c12 => k_is)
    (case k12 => k_is)
    (case a13 => k_is)
    (case l13 => k_is)
    (case c13 => k_is)
    (case k13 => k_is)
    (case a14 => k_is)
    (case l14 => k_is)
    (case c14 => k_is)
    (case k14 => k_is)
    (case a15 => k_is)
    (case l15 => k_is)
    (case c15 => k_is)
    (case k15 => k_is)
    (case a16 => k_is)
    (case l16 => k_is)
    (case c16 => k_is)
    (case k16 => k_is)
    (case a17 => k_is)
    (case l17 => k_is)
    (case c17 => k_is)
    (case k17 => k_is)
    (case a18 => k_is)
    (case l18 => k_is)
    (case c18 => k_is)
    (case k18 => k_is)
    (case a19 => k_is)
    (case l19 => k_is)
    (case c19 => k_is)
    (case k19 => k_is)
    (case a20 => k_is)
    (case l20 => k_is)
    (case c20 => k_is)
    (case k20 => k_is)
    (case a21 => k_is)
    (case l21 => k_is)
    (case c21 => k_is)
    (case k21 => k_is)
    (case a22 => k_is)
    (case l22 => k_is)
    (case c22 => k_is)
    (case k22 => k_is)
    (case a23 => k_is)
    (case l23 => k_is)
    (case c23 => k_is)
    (case k23 => k_is)
    (case a24 => k_is)
    (case l24 => k_is)
    (case c24 => k_is)
    (case k24 => k_is)
    (case a25 => k_is)
    (case l25 => k_is)
    (case c25 => k_is)
    (case k25 => k_is)
    (case a26 => k_is)
    (case l26 => k_is)
    (case c26 => k_is)
    (case k26 => k_is)
    (case z_len => k_is)
    (case z_all => k_is)
    (case z_min => k_is)
    (case z_max => k_is)
    (case z_sum => k_is)
    (case z_isinstance => k_is)
    (case z_sorted => k_is)
    (case z_tuple => k_is)
    (case z_list => k_is)
    (case z_range => k_is)
    (case z_int => k_is)
    (case z_bool => k_is)
    (case z_zip => k_is)
    (case z_repr => k_is)
    (case z_enumerate => k_is)
    (case z_reversed => k_is)
    (case z_str => k_is)
    (case z_set => k_is)
    (case z_abs => k_is)
    (case g_LONGEST_MOVED => k_is)
    (case ac_START => k_is)
    (case lS => first | k_is | kernel_rfl)
    (case lT => first | k_is | kernel_rfl)
  case hCd =>
    intro w
    first | kernel_rfl | k_is
  case hKP =>
    intro w
    first | kernel_rfl | k_is
