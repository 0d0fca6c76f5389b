import PyProof.Rows.All
import Wide.All
import OpenK.AllK
import Wide.FinOn
import Lean
import PyProof.EqAt
import PyProof.EqKinds
import PyProof.TupleCall
import PyProof.Rows.SetFrom
import PyProof.ExcAttrAll.ValueError
import KE.KDictList
import KE.KRevIter
import KE.KPairComp
import PyProof.EqAt
import KE.KSortTup
import PyProof.DictValues
import PySem.Challenge.RW_homeround_k45_pairings_told
set_option Elab.async false
set_option linter.all false
set_option maxRecDepth 100000
set_option maxHeartbeats 4000000
namespace L2
open PySem PySem.Spec PyProof.Rows
noncomputable abbrev Key:=Sum Int Str
noncomputable def aAJ:Key→Value→Bool
 | .inl k,v=>Value.isInt k v
 | .inr x,v=>Value.isStrOf x v
noncomputable def aDi (w:World):Key→Int
 | .inl k=>hashInt k
 | .inr x=>hashStr w x
theorem cD:∀ {k:Key} {v:Value},aAJ k v=true→(∃ i t,k=Sum.inl i∧v=Value.int i t)∨(∃ x t,k=Sum.inr x∧v=Value.str x t)
 | .inl i,v,h=>by
  obtain ⟨t,e⟩:=Value.isInt_shape (k:=i) (v:=v) h
  exact .inl ⟨i,t,rfl,e⟩
 | .inr x,v,h=>by
  obtain ⟨t,e⟩:=Value.isStrOf_shape (x:=x) (v:=v) h
  exact .inr ⟨x,t,rfl,e⟩
theorem aAD (a b:Int):decide ((Sum.inl a:Key)=Sum.inl b)=(a == b):=by
 by_cases e:a=b
 ·subst e;simp
 ·have h:¬ (Sum.inl a:Key)=Sum.inl b:=fun q=>e (Sum.inl.inj q)
  rw [decide_eq_false h]
  exact (beq_eq_false_iff_ne.mpr e).symm
theorem aAZ (a b:Str):decide ((Sum.inr a:Key)=Sum.inr b)=decide (a=b):=by
 by_cases e:a=b
 ·subst e;simp
 ·have h:¬ (Sum.inr a:Key)=Sum.inr b:=fun q=>e (Sum.inr.inj q)
  rw [decide_eq_false h,decide_eq_false e]
theorem aAG (a:Int)(b:Str):decide ((Sum.inl a:Key)=Sum.inr b)=false:=decide_eq_false (fun q=>nomatch q)
theorem aBj (a:Str)(b:Int):decide ((Sum.inr a:Key)=Sum.inl b)=false:=decide_eq_false (fun q=>nomatch q)
noncomputable def rH (prog:Program) (w:World):PySem.KeyKind prog w Key where
 is:=aAJ
 hash:=aDi w
 inj:=fun v a b ha hb=>by
  rcases cD ha with ⟨i,t,rfl,rfl⟩ | ⟨x,t,rfl,rfl⟩
  ·rcases cD hb with ⟨j,u,rfl,e⟩ | ⟨y,u,rfl,e⟩
   ·injection e with e1 _;rw [e1]
   ·exact nomatch e
  ·rcases cD hb with ⟨j,u,rfl,e⟩ | ⟨y,u,rfl,e⟩
   ·exact nomatch e
   ·injection e with e1 _;rw [e1]
 byValue:=fun k v h=>by
  rcases cD h with ⟨i,t,rfl,rfl⟩ | ⟨x,t,rfl,rfl⟩ <;> rfl
 pyHash:=fun hv h=>by
  rcases cD hv with ⟨i,t,rfl,rfl⟩ | ⟨x,t,rfl,rfl⟩
  ·exact wpAny_pyHash_int h
  ·exact wpAny_pyHash_str h
 eqBool:=fun hu hv h=>by
  rcases cD hu with ⟨i,t,rfl,rfl⟩ | ⟨x,t,rfl,rfl⟩
  ·rcases cD hv with ⟨j,u,rfl,rfl⟩ | ⟨y,u,rfl,rfl⟩
   ·rw [aAD] at h;exact wpAny_eqBool_int h
   ·rw [aAG] at h;exact SeqAt.EqAt.int_str i t y u _ _ _ _ h
  ·rcases cD hv with ⟨j,u,rfl,rfl⟩ | ⟨y,u,rfl,rfl⟩
   ·rw [aBj] at h;exact SeqAt.EqAt.str_int x t j u _ _ _ _ h
   ·rw [aAZ] at h;exact wpAny_eqBool_str h
 «strs»:=fun k x t v h=>by
  rcases cD h with ⟨i,u,rfl,e⟩ | ⟨y,u,rfl,e⟩
  ·exact nomatch e
  ·injection e with e1 _
   subst e1
   cases v <;> rfl
end L2
namespace L2
open PySem PySem.Spec PyProof.Rows
inductive V where
 | non | bl (b:Bool) | int (i:Int) | str (x:Str) | byt (b:Array UInt8) | flt (b:UInt64) | ref (a:Addr) | ty (n:String)
 deriving DecidableEq
noncomputable def RelV:V→Value→Prop
 | .non,u=>u=Value.none
 | .bl b,u=>u=Value.bool b
 | .int i,u=>∃ t,u=Value.int i t
 | .str x,u=>∃ t,u=Value.str x t
 | .byt b,u=>∃ t,u=Value.bytes b t
 | .flt b,u=>∃ t,u=Value.float b t
 | .ref a,u=>u=Value.ref a
 | .ty n,u=>u=Value.type n
noncomputable abbrev Vals:List V→List Value→Prop:=Paired RelV
theorem Vals.length {xs:List V}{us:List Value}(r:Vals xs us):xs.length=us.length:=Paired.length r
theorem Vals.get:∀ {xs:List V} {us:List Value} {i:Nat} {x:V},Vals xs us→xs[i]?=some x→∃ u,us[i]?=some u∧RelV x u
 | _,_,_,_, .nil,e=>by simp at e
 | _,_,0,_, .cons r _,e=>by simp at e;subst e;exact ⟨_,rfl,r⟩
 | _,_,i+1,x, .cons _ t,e=>by
  obtain ⟨u,h1,h2⟩:=Vals.get (i:=i) (x:=x) t (by simpa using e)
  exact ⟨u,by simpa using h1,h2⟩
theorem Vals.set {x:V}{u:Value}(r:RelV x u):∀ {xs:List V} {us:List Value} (i:Nat),Vals xs us→Vals (xs.set i x) (us.set i u)
 | _,_,_, .nil => .nil
 | _,_,0, .cons _ t => .cons r t
 | _,_,i+1, .cons q t => .cons q (Vals.set r i t)
theorem Vals.append:∀ {xs ys:List V} {us ws:List Value},Vals xs us→Vals ys ws→Vals (xs++ys) (us++ws)
 | _,_,_,_, .nil,s=>s
 | _,_,_,_, .cons r t,s => .cons r (Vals.append t s)
theorem Vals.take:∀ {xs:List V} {us:List Value} (n:Nat),Vals xs us→Vals (xs.take n) (us.take n)
 | _,_,0,_ => .nil
 | _,_,_+1, .nil => .nil
 | _,_,n+1, .cons r t => .cons r (Vals.take n t)
theorem Vals.drop:∀ {xs:List V} {us:List Value} (n:Nat),Vals xs us→Vals (xs.drop n) (us.drop n)
 | _,_,0,r=>r
 | _,_,_+1, .nil => .nil
 | _,_,n+1, .cons _ t=>Vals.drop n t
noncomputable def aCT:Option V→Option Value→Prop
 | some v,some u=>RelV v u
 | none,none=>True
 | _,_=>False
noncomputable def KV {κ:Type}:List (κ × V)→List (κ × Value)→Prop:=Paired fun (p:κ × V) (q:κ × Value)=>p.1=q.1∧RelV p.2 q.2
noncomputable def kV:Key→V
 | .inl i => .int i
 | .inr x => .str x
inductive HO where
 | lst (xs:List V)
 | tup (xs:List V)
 | dK (kvs:List (Key × V)) | dT (kvs:List (List Key × V))
 | set (S:Int→Bool) (n:Nat)
 | ins (C dx:Addr) (fs:List (Str × V))
 | own (x:Addr)
 | xd (fs:List (Str × V))
 | met (f x:Addr)
 | rng (lo hi:Int)
 | frz (o:Obj) (u:HO)
 | tbl (ps:Array Value)
 | ext (φ:Heap→Prop)
noncomputable abbrev Hp:=Addr→Option HO
noncomputable def upd (H:Hp) (a:Addr) (o:HO):Hp:=fun b=>if b=a then some o else H b
theorem aF {H:Hp}{a:Addr}{o:HO}:upd H a o a=some o:=by unfold upd;rw [if_pos rfl]
theorem aP {H:Hp}{a b:Addr}{o:HO}(h:b≠a):upd H a o b=H b:=by unfold upd;rw [if_neg h]
theorem ne_of {H:Hp}{a b:Addr}{o u:HO}(h:H a=some o)(h':H b=some u)(d:o≠u):a≠b:=by
 intro e;subst e;rw [h] at h';exact d (Option.some.inj h')
theorem aQ {H:Hp}{a b:Addr}{o:HO}(h:H a=some o)(h':H b=none):a≠b:=by
 intro e;subst e;rw [h] at h';cases h'
noncomputable def TupN (h:Heap) (a:Addr) (items:Array Value):Prop:=∃ o,h.get? a=some o∧o.cls = .type "tuple"∧(∃ n,o.data = .seq items n)∧o.dict=none
theorem TupN.tup {h:Heap}{a:Addr}{items:Array Value}(p:TupN h a items):IsTup h a items:=let ⟨o,e,c,n,_⟩:=p;⟨o,e,c,n⟩
theorem TupN.new (h:Heap)(items:Array Value):TupN (h.push { cls := .type "tuple",data := .seq items }) h.objs.size items:=⟨_,Heap.get?_push_size _ rfl,rfl,⟨_,rfl⟩,rfl⟩
section
variable (P:Program)(w:World)
noncomputable def ObjOk (H:Hp) (h:Heap) (a:Addr):HO→Prop
 | .lst xs=>xs.length≤sizeLine∧∃ (its:List Value) (n:Nat),Vals xs its∧h.get? a=some { cls := .type "list",data := .seq its.toArray n }
 | .tup xs=>xs.length≤sizeLine∧∃ its:List Value,Vals xs its∧TupN h a its.toArray
 | .dK kvs=>kvs.length≤sizeLine∧(a == sysModules)=false∧∃ vs,KV kvs vs∧h.DictOf (rH P w) a vs
 | .dT kvs=>kvs.length≤sizeLine∧(a == sysModules)=false∧∃ xs:List (List Key × Addr × Value),
   Paired (fun (p:List Key × V) (q:List Key × Addr × Value)=>p.1=q.1∧H q.2.1=some (.tup (p.1.map kV))∧RelV p.2 q.2.2) kvs xs ∧
   ∃ o es ep,h.get? a=some o∧o.ExactDict∧o.data = .dict es ep∧es.toList=xs.map (entryOfKey (tupleKind (rH P w)))∧(xs.map (·.1)).Nodup
 | .set S n=>h.SetOf (intKind P w) a S n
 | .ins C dx fs=>H dx=some (.own a)∧fs.length≤1000∧dx≠a∧h.get? a=some (PySem.W.instObj C dx) ∧
   ∃ mA,h.Ns1 dx mA∧(∀ f,aCT (fs.lookup f) (mA f))∧PySem.Within mA (fs.map (·.1))
 | .own _=>∃ o,h.get? a=some o
 | .xd fs=>∃ mA,h.Ns1 a mA∧∀ f,aCT (fs.lookup f) (mA f)
 | .rng lo hi=>∃ t u v,h.get? a=some { cls := .type "range",data := .fields #[.int lo t, .int hi u, .int 1 v] }
 | .frz o u=>h.get? a=some o∧ObjOk H h a u
 | .tbl ps=>h.get? a=some { cls := .none,data := .fields ps }
 | .met f x=>h.get? a=some (PySem.W.methodObj (.ref f) (.ref x))
 | .ext φ=>φ h∧(∃ o,h.get? a=some o)∧∀ h1 h2:Heap,φ h1→(∀ o,h1.get? a=some o→h2.get? a=some o)→φ h2
noncomputable def HOk (H:Hp) (h:Heap):Prop:=∀ a o,H a=some o→ObjOk P w H h a o
end
section
variable {P:Program}{w:World}{H H':Hp}{h h':Heap}{a:Addr}{o:HO}
theorem ObjOk.lt (x:ObjOk P w H h a o):a<h.objs.size:=by
 cases o with
 | lst xs=>obtain ⟨_,_,_,_,e⟩:=x;exact Heap.lt_size e
 | tup xs=>obtain ⟨_,_,_,p⟩:=x;exact p.tup.lt
 | dK kvs=>obtain ⟨_,_,_,_,o,_,_,e,_⟩:=x;exact Heap.lt_size e
 | dT kvs=>obtain ⟨_,_,_,_,o,_,_,e,_⟩:=x;exact Heap.lt_size e
 | set S n=>obtain ⟨o,_,_,_,e,_⟩:=x;exact Heap.lt_size e
 | ins C dx fs=>obtain ⟨_,_,_,e,_⟩:=x;exact Heap.lt_size e
 | own y=>obtain ⟨_,e⟩:=x;exact Heap.lt_size e
 | xd fs=>obtain ⟨_,⟨_,_,_,e,_⟩,_⟩:=x;exact Heap.lt_size e
 | rng lo hi=>obtain ⟨_,_,_,e⟩:=x;exact Heap.lt_size e
 | frz ob u=>obtain ⟨e,_⟩:=x;exact Heap.lt_size e
 | tbl ps=>exact Heap.lt_size (show h.get? a=some _ from x)
 | met f y=>exact Heap.lt_size (show h.get? a=some _ from x)
 | ext φ=>obtain ⟨_,⟨_,e⟩,_⟩:=x;exact Heap.lt_size e
theorem Paired.mapP {α β:Type}{F G:α→β→Prop}:∀ {l₁:List α} {l₂:List β},Paired F l₁ l₂→(∀ a b,F a b→G a b)→Paired G l₁ l₂
 | _,_, .nil,_ => .nil
 | _,_, .cons r t,f => .cons (f _ _ r) (Paired.mapP t f)
theorem ObjOk.stay (x:ObjOk P w H h a o)(k:∀ b u,(b=a∨H b=some (.own a))→h.get? b=some u→h'.get? b=some u)
  (ho:∀ b,H b=some (.own a)→H' b=some (.own a)) (ht:∀ b xs,H b=some (.tup xs)→H' b=some (.tup xs)):ObjOk P w H' h' a o:=by
 induction o with
 | lst xs=>obtain ⟨z,its,n,r,e⟩:=x;exact ⟨z,its,n,r,k _ _ (.inl rfl) e⟩
 | tup xs=>obtain ⟨z,its,r,ob,e,c⟩:=x;exact ⟨z,its,r,ob,k _ _ (.inl rfl) e,c⟩
 | dK kvs=>obtain ⟨z,y,vs,r,ob,es,ep,e,c⟩:=x;exact ⟨z,y,vs,r,ob,es,ep,k _ _ (.inl rfl) e,c⟩
 | dT kvs=>
  obtain ⟨z,y,xs,r,ob,es,ep,e,c⟩:=x
  exact ⟨z,y,xs,Paired.mapP r fun p q z=>⟨z.1,ht _ _ z.2.1,z.2.2⟩,ob,es,ep,k _ _ (.inl rfl) e,c⟩
 | set S n=>obtain ⟨ob,es,ep,t,e,c⟩:=x;exact ⟨ob,es,ep,t,k _ _ (.inl rfl) e,c⟩
 | ins C dx fs=>
  obtain ⟨d,z,ne,e,mA,⟨od,es,ep,e2,c⟩,r⟩:=x
  exact ⟨ho _ d,z,ne,k _ _ (.inl rfl) e,mA,⟨od,es,ep,k _ _ (.inr d) e2,c⟩,r⟩
 | own y=>obtain ⟨ob,e⟩:=x;exact ⟨ob,k _ _ (.inl rfl) e⟩
 | xd fs=>obtain ⟨mA,⟨od,es,ep,e,c⟩,r⟩:=x;exact ⟨mA,⟨od,es,ep,k _ _ (.inl rfl) e,c⟩,r⟩
 | rng lo hi=>obtain ⟨t,u,v,e⟩:=x;exact ⟨t,u,v,k _ _ (.inl rfl) e⟩
 | frz ob u ih=>obtain ⟨e,q⟩:=x;exact ⟨k _ _ (.inl rfl) e,ih q⟩
 | tbl ps=>
  have e:h.get? a=some { cls := .none,data := .fields ps }:=x
  show h'.get? a=some { cls := .none,data := .fields ps }
  exact k a _ (.inl rfl) e
 | met f y=>
  have e:h.get? a=some (PySem.W.methodObj (.ref f) (.ref y)):=x
  show h'.get? a=some (PySem.W.methodObj (.ref f) (.ref y))
  exact k a _ (.inl rfl) e
 | ext φ=>obtain ⟨p,⟨o,e⟩,st⟩:=x;exact ⟨st _ _ p fun o q=>k _ _ (.inl rfl) q,⟨o,k _ _ (.inl rfl) e⟩,st⟩
theorem HOk.lt (x:HOk P w H h)(e:H a=some o):a<h.objs.size:=(x a o e).lt
theorem HOk.fresh (x:HOk P w H h)(e:h.objs.size≤a):H a=none:=by
 cases q:H a with
 | none=>rfl
 | some u=>exact absurd (Nat.lt_of_lt_of_le (x.lt q) e) (Nat.lt_irrefl _)
theorem HOk.kept (x:HOk P w H h)(k:∀ b u,h.get? b=some u→h'.get? b=some u):HOk P w H h':=fun a o e=>
 (x a o e).stay (fun b u _ q=>k b u q) (fun _ q=>q) fun _ _ q=>q
theorem HOk.laid (x:HOk P w H h)(k:∀ b u,h.get? b=some u→h'.get? b=some u)(hp:h.objs.size≤a)(new:ObjOk P w (upd H a o) h' a o):HOk P w (upd H a o) h':=fun b u e=>by
 have hn:=x.fresh hp
 by_cases hb:b=a
 ·subst hb;rw [aF] at e;cases e;exact new
 ·rw [aP hb] at e
  exact (x b u e).stay (fun c v _ q=>k c v q) (fun c q=>by rw [aP (aQ q hn)];exact q) fun c xs q=>by rw [aP (aQ q hn)];exact q
end
noncomputable def Rd (H:Hp) (a:Addr) (u:HO):Prop:=H a=some u∨∃ o,H a=some (.frz o u)
theorem Rd.ok {P:Program}{w:World}{H:Hp}{h:Heap}{a:Addr}{u:HO}(r:Rd H a u)(x:HOk P w H h):ObjOk P w H h a u:=by
 rcases r with r | ⟨o,r⟩
 ·exact x a u r
 ·obtain ⟨_,q⟩:=x a _ r
  exact q
noncomputable def Mut:Option HO→Prop
 | some (.lst _)=>True
 | some (.dK _)=>True
 | some (.dT _)=>True
 | some (.set _ _)=>True
 | some (.ins _ _ _)=>True
 | some (.ext _)=>True
 | _=>False
section
variable {P:Program}{w:World}{H:Hp}{h h':Heap}{x e:Addr}{o':HO}
theorem HOk.write (ok:HOk P w H h)(mu:Mut (H x))(he:e=x∨H e=some (.own x))(k:∀ b u,b≠e→h.get? b=some u→h'.get? b=some u)(heo:∃ u,h'.get? e=some u)
  (new:ObjOk P w (upd H x o') h' x o'):HOk P w (upd H x o') h':=fun b u q=>by
 have nown:∀ c y,H c=some (.own y)→c≠x:=fun c y r z=>by subst z;rw [r] at mu;exact mu
 have ntup:∀ c xs,H c=some (.tup xs)→c≠x:=fun c xs r z=>by subst z;rw [r] at mu;exact mu
 by_cases hb:b=x
 ·subst hb;rw [aF] at q;cases q;exact new
 ·rw [aP hb] at q
  by_cases hbe:b=e
  ·have q':H b=some (.own x):=by
    rcases he with z | z
    ·exact absurd (hbe.trans z) hb
    ·rw [hbe];exact z
   rw [q] at q';cases q'
   obtain ⟨v,hv⟩:=heo
   exact ⟨v,by rw [hbe];exact hv⟩
  ·refine (ok b u q).stay (fun c v hc r=>k c v ?_ r) (fun c r=>by rw [aP (nown c b r)];exact r) fun c xs r=>by rw [aP (ntup c xs r)];exact r
   rcases hc with rfl | hc
   ·exact hbe
   ·rintro rfl
    rcases he with z | z
    ·exact nown c b hc z
    ·rw [hc] at z;cases z;exact hb rfl
end
structure Un (fs ex:List Addr)(H H':Hp)(h h':Heap):Prop where
 keep:∀ b o,h.get? b=some o→H b=none→b∉fs→b∉ex→h'.get? b=some o
 slot:∀ b o,h.get? b=some o→H b=none→b∈fs→b∉ex→∃ sl,h'.get? b=some { o with slots:=sl }
 free:∀ b o,h.get? b=some o→H b=none→b∉ex→H' b=none
 there:∀ b o,h.get? b=some o→b∉ex→∃ o',h'.get? b=some o'
 tups:∀ b xs,H b=some (.tup xs)→H' b=some (.tup xs)
 frzs:∀ b o u,H b=some (.frz o u)→H' b=some (.frz o u)
 tbls:∀ b ps,H b=some (.tbl ps)→∃ more,H' b=some (.tbl (ps++more))
section
variable {fs fs' ex ex':List Addr}{H H1 H2:Hp}{h h1 h2 h':Heap}{a x e:Addr}{o:HO}
theorem Un.any (u:Un fs ex H H1 h h1){b:Addr}{ob:Obj}(q:h.get? b=some ob)(n:H b=none)(hx:b∉ex):∃ sl,h1.get? b=some { ob with slots:=sl }:=by
 by_cases hb:b∈fs
 ·exact u.slot b ob q n hb hx
 ·exact ⟨ob.slots,u.keep b ob q n hb hx⟩
theorem Un.kept (k:∀ b u,h.get? b=some u→h'.get? b=some u):Un fs ex H H h h':=
 ⟨fun b ob q _ _ _=>k b ob q,fun b ob q _ _ _=>⟨ob.slots,k b ob q⟩,fun _ _ _ n _=>n,fun b ob q _=>⟨ob,k b ob q⟩,fun _ _ q=>q,fun _ _ _ q=>q,fun _ ps q=>⟨#[],by rw [q];simp⟩⟩
theorem Un.refl:Un fs ex H H h h:=Un.kept fun _ _ q=>q
theorem Un.laid (k:∀ b u,h.get? b=some u→h'.get? b=some u)(hp:h.objs.size≤a)(hn:H a=none):Un fs ex H (upd H a o) h h' where
 keep:=fun b u q _ _ _=>k b u q
 slot:=fun b u q _ _ _=>⟨u.slots,k b u q⟩
 free:=fun b u q n _=>by rw [aP (Nat.ne_of_lt (Nat.lt_of_lt_of_le (Heap.lt_size q) hp))];exact n
 there:=fun b u q _=>⟨u,k b u q⟩
 tups:=fun b xs q=>by rw [aP (aQ q hn)];exact q
 frzs:=fun b u xs q=>by rw [aP (aQ q hn)];exact q
 tbls:=fun b ps q=>⟨#[],by rw [aP (aQ q hn),q];simp⟩
theorem Un.write (mu:Mut (H x))(he:e=x∨H e=some (.own x))(k:∀ b u,b≠e→h.get? b=some u→h'.get? b=some u)(heo:∃ u,h'.get? e=some u):Un fs ex H (upd H x o) h h':=by
 have hx:∀ b,H b=none→b≠x:=fun b n z=>by subst z;rw [n] at mu;exact mu
 have hb:∀ b,H b=none→b≠e:=fun b n z=>by
  subst z
  rcases he with r | r
  ·exact hx b n r
  ·rw [n] at r;cases r
 have hm:∀ b u,H b=some u→¬ Mut (some u)→b≠x:=fun b u q nm z=>by subst z;rw [q] at mu;exact nm mu
 refine ⟨fun b u q n _ _=>k b u (hb b n) q,fun b u q n _ _=>⟨u.slots,k b u (hb b n) q⟩,fun b u q n _=>by rw [aP (hx b n)];exact n,fun b u q _=>?_,
  fun b xs q=>by rw [aP (hm b _ q fun z=>z)];exact q,fun b u xs q=>by rw [aP (hm b _ q fun z=>z)];exact q,fun b ps q=>⟨#[],by rw [aP (hm b _ q fun z=>z),q];simp⟩⟩
 by_cases hbe:b=e
 ·subst hbe;exact heo
 ·exact ⟨u,k b u hbe q⟩
end
noncomputable def trk (h:Heap) (H:Hp):List Addr:=(List.range h.objs.size).filter fun a=>(H a).isSome
noncomputable def wP (h:Heap) (H:Hp):Heap:=PySem.W.hideAll h (trk h H)
theorem vR (h:Heap)(H:Hp):(wP h H).objs.size=h.objs.size:=PySem.W.hideAll_size _ _
theorem yL {h:Heap}{H:Hp}{b:Addr}{o:Obj}(e:h.get? b=some o)(n:H b=none):(wP h H).get? b=some o:=
 PySem.W.hideAll_get _ e fun hm=>by
  have q:(H b).isSome=true:=(List.mem_filter.mp hm).2
  rw [n] at q;simp at q
theorem aAa {h:Heap}{H:Hp}{b:Addr}{o:Obj}(e:(wP h H).get? b=some o):h.get? b=some o∧H b=none:=by
 have e':h.get? b=some o:=PySem.W.of_hideAll (trk h H) e
 refine ⟨e',?_⟩
 cases q:H b with
 | none=>rfl
 | some x=>
  have hm:b∈trk h H:=List.mem_filter.mpr ⟨List.mem_range.mpr (Heap.lt_size e'),by simp [q]⟩
  have z:(wP h H).get? b=none:=PySem.W.hideAll_none (trk h H) hm
  rw [z] at e;cases e
end L2
namespace L2
open PySem PySem.Spec PyProof.Rows
structure Mod (K:PySem.W.Frag)(mg:Str→Option Value)(base:Heap):Prop where
 kin:K.In base
 glob:base.Ns mainGlobals mg
 blt:∃ mb,base.Ns builtinsNs mb∧∀ x:Str,x≠"__name__"→mb x=bootBuiltins x
 nolimit:base.NoLimit
structure Cx where
 prog:Program
 w:World
 K:PySem.W.Frag
 mg:Str→Option Value
 base:Heap
 A:Around
 N:List Str
 s₀:Shared
 H₀:Hp
 env:Env
 outer:List Env
 stack:List Env
 ex:List Addr
 fn:Str→Bool
 calm:Bool
 pn:List (Addr × Obj)
 xe:Value→Shared→Prop
noncomputable def frs (l:List Env):List Addr:=l.filterMap (·.frame)
noncomputable abbrev Cx.fs (X:Cx):List Addr:=frs X.outer
noncomputable def Vis (sc:Scope) (x:Str):Prop:=sc.names.lookup x=some .local∨sc.names.lookup x=some .cell∨sc.names.lookup x=some .free
noncomputable def Loc (sc:Scope) (x:Str):Prop:=sc.names.lookup x=some .local∨sc.names.lookup x=some .cell
noncomputable def Look (env:Env) (h:Heap) (m:Str→Option Value) (x:Str) (u:Value):Prop:=
 (env.kindOf x=some .local∧m x=some u)∨((env.kindOf x=some .cell∨env.kindOf x=some .free)∧∃ c,env.cells.lookup x=some c∧h.IsCell c (some u))
structure Cx.Ok (X:Cx):Prop where
 mod:Mod X.K X.mg X.base
 kind:X.env.scope.kind = .function
 glob:X.env.globals=mainGlobals
 blt:X.env.builtins=builtinsNs
 above:X.s₀.heap.objs.size≤X.env.locals
 inj:∀ x y c,X.env.cells.lookup x=some c→X.env.cells.lookup y=some c→x=y
 has:∀ x,(X.env.kindOf x=some .cell∨X.env.kindOf x=some .free)→∃ c,X.env.cells.lookup x=some c
 cab:∀ x c,X.fn x=true→X.env.cells.lookup x=some c→X.s₀.heap.objs.size≤c
 hd:X.calm=true→X.A.handled=none
 frames:X.A.frames=some X.stack
 stk:X.stack=X.outer∨(X.stack=X.env :: X.outer∧X.env.frame=some X.env.locals)
 exf:∀ b∈X.ex,b≠X.env.locals∧∀ x c,X.env.cells.lookup x=some c→c≠b
 bs:∀ b o,X.base.get? b=some o→X.s₀.heap.get? b=some o∧X.H₀ b=none
 bsz:X.base.objs.size≤X.s₀.heap.objs.size
 noex:∀ b o,X.base.get? b=some o→b∉X.ex
 exfs:∀ b∈X.ex,b∉X.fs
 funs:X.s₀.heap.FunFrames X.base X.outer
 frf:∀ b∈X.fs,X.H₀ b=none
structure Inv (X:Cx)(pins:List (Addr × Obj))(σ:List (Option V))(H:Hp)(s:Shared):Prop where
 ok:X.Ok
 os:s.os=X.s₀.os
 bare:AllBare s.gens
 base:Un X.fs X.ex X.H₀ H X.s₀.heap s.heap
 loc:∃ m,s.heap.Ns X.env.locals m∧∀ (i:Nat) (x:Str) (v:V),X.N[i]?=some x→σ[i]?=some (some v)→Vis X.env.scope x→∃ u,RelV v u∧Look X.env s.heap m x u
 cell:∀ x c,X.env.cells.lookup x=some c→∃ v,s.heap.IsCell c v
 free:H X.env.locals=none
 freeC:∀ x c,X.env.cells.lookup x=some c→H c=none
 pin:∀ p∈X.pn++pins,s.heap.get? p.1=some p.2∧H p.1=none∧p.1≠X.env.locals∧p.1∉X.fs∧∀ v,p.2.data ≠ .cell v
 hok:HOk X.prog X.w H s.heap
 len:σ.length=X.N.length
section
variable {X:Cx}{pins:List (Addr × Obj)}{σ:List (Option V)}{H H':Hp}{s:Shared}{h':Heap}
theorem Cx.Ok.nofr (ok:X.Ok){b:Addr}{o:Obj}(e:X.base.get? b=some o):b∉X.fs:=fun hb=>by
 have:=(ok.funs.mem hb).1
 rw [e] at this;cases this
theorem Inv.bs (I:Inv X pins σ H s):∀ b o,X.base.get? b=some o→s.heap.get? b=some o∧H b=none:=fun b o e=>
 ⟨I.base.keep b o (I.ok.bs b o e).1 (I.ok.bs b o e).2 (I.ok.nofr e) (I.ok.noex b o e),I.base.free b o (I.ok.bs b o e).1 (I.ok.bs b o e).2 (I.ok.noex b o e)⟩
theorem Inv.bk (I:Inv X pins σ H s):∀ b o,X.base.get? b=some o→s.heap.get? b=some o:=fun b o e=>(I.bs b o e).1
theorem Inv.mod (I:Inv X pins σ H s):Mod X.K X.mg X.base:=I.ok.mod
theorem Inv.kIn (I:Inv X pins σ H s):X.K.In s.heap:=I.ok.mod.kin.keeps I.bk
theorem Inv.lt (I:Inv X pins σ H s):X.env.locals<s.heap.objs.size:=let ⟨_,hn,_⟩:=I.loc;hn.lt
theorem Inv.sz (I:Inv X pins σ H s):X.s₀.heap.objs.size≤s.heap.objs.size:=Nat.le_trans I.ok.above (Nat.le_of_lt I.lt)
theorem Inv.nofs (I:Inv X pins σ H s){a:Addr}(h:s.heap.objs.size≤a):a∉X.fs:=fun hb=>by
 obtain ⟨_,o,ho,_⟩:=I.ok.funs.mem hb
 exact absurd (Nat.lt_of_lt_of_le (Heap.lt_size ho) (Nat.le_trans I.sz h)) (Nat.lt_irrefl _)
theorem Inv.cne (I:Inv X pins σ H s):∀ x c,X.env.cells.lookup x=some c→c≠X.env.locals:=fun x c e z=>by
 obtain ⟨v,o,ho,hd⟩:=I.cell x c e
 obtain ⟨m,⟨o',es,ep,ho',hd',_⟩,_⟩:=I.loc
 rw [z,ho'] at ho;cases ho;rw [hd'] at hd;cases hd
theorem Inv.funs (I:Inv X pins σ H s):s.heap.FunFrames X.base X.outer:=by
 have all:∀ (l:List Env),(∀ b∈frs l,b∈X.fs)→X.s₀.heap.FunFrames X.base l→s.heap.FunFrames X.base l:=by
  intro l
  induction l with
  | nil=>intro _ _;trivial
  | cons env r ih=>
   intro hs hl
   obtain ⟨hk,⟨L,o,hf,hn,ho,hd⟩,hr⟩:=hl
   have hL:L∈X.fs:=hs L (by unfold frs;rw [List.filterMap_cons,hf];exact List.mem_cons_self)
   obtain ⟨sl,e⟩:=I.base.slot L o ho (I.ok.frf L hL) hL fun z=>I.ok.exfs L z hL
   exact ⟨hk,⟨L,_,hf,hn,e,hd⟩,ih (fun b hb=>hs b (by unfold frs;rw [List.filterMap_cons,hf];exact List.mem_cons_of_mem _ hb)) hr⟩
 exact all X.outer (fun _ hb=>hb) I.ok.funs
theorem Inv.stack (I:Inv X pins σ H s):s.heap.FunFrames X.base X.stack:=by
 rcases I.ok.stk with e | ⟨e,hf⟩
 ·rw [e];exact I.funs
 ·rw [e]
  obtain ⟨m,hn,_⟩:=I.loc
  refine .cons (by rw [I.ok.kind];decide) hf hn ?_ I.funs
  exact Heap.get?_none_of_le (Nat.le_trans I.ok.bsz I.ok.above)
theorem Inv.stkSub (I:Inv X pins σ H s):∀ b∈frs X.stack,b∈X.env.locals :: X.fs:=fun b hb=>by
 rcases I.ok.stk with e | ⟨e,hf⟩
 ·rw [e] at hb;exact List.mem_cons_of_mem _ hb
 ·rw [e] at hb
  unfold frs at hb
  rw [List.filterMap_cons,hf] at hb
  exact hb
theorem Inv.stkFree (I:Inv X pins σ H s):∀ b∈frs X.stack,H b=none:=fun b hb=>by
 rcases List.mem_cons.mp (I.stkSub b hb) with e | hb
 ·rw [e];exact I.free
 ·obtain ⟨_,o,ho,_⟩:=I.ok.funs.mem hb
  exact I.base.free b o ho (I.ok.frf b hb) fun z=>I.ok.exfs b z hb
theorem Inv.step {g':Array GenState}{t':Nat}{d':Drawn}{ch:List Addr}(I:Inv X pins σ H s)
  (hch:∀ b∈ch,(b∈X.ex∨X.s₀.heap.objs.size≤b)∧b≠X.env.locals∧(∀ x c,X.env.cells.lookup x=some c→c≠b)∧∀ p∈X.pn++pins,p.1≠b)
  (keep:∀ b o,b≠X.env.locals→b∉X.fs→b∉ch→s.heap.get? b=some o→H b=none→h'.get? b=some o)
  (slot:∀ b o,b≠X.env.locals→b∈X.fs→b∉ch→s.heap.get? b=some o→H b=none→∃ sl,h'.get? b=some { o with slots:=sl }) (free:∀ b o,b∉ch→s.heap.get? b=some o→H b=none→H' b=none)
  (there:∀ b o,b∉ch→s.heap.get? b=some o→∃ o',h'.get? b=some o')
  (tups:∀ b xs,H b=some (.tup xs)→H' b=some (.tup xs)) (frzs:∀ b o u,H b=some (.frz o u)→H' b=some (.frz o u)) (tbls:∀ b ps,H b=some (.tbl ps)→∃ more,H' b=some (.tbl (ps++more)))
  (ns:∀ m,s.heap.Ns X.env.locals m→h'.Ns X.env.locals m) (hok:HOk X.prog X.w H' h') (hg:AllBare g') :
  Inv X pins σ H' { s with heap:=h',gens:=g',drawn:=d',toks:=t' }:=by
 have neL:∀ b o,X.s₀.heap.get? b=some o→b≠X.env.locals:=fun b o e=>Nat.ne_of_lt (Nat.lt_of_lt_of_le (Heap.lt_size e) I.ok.above)
 have neC:∀ b o,X.s₀.heap.get? b=some o→b∉X.ex→b∉ch:=fun b o e hx hb=>by
  rcases (hch b hb).1 with z | z
  ·exact hx z
  ·exact absurd (Nat.lt_of_lt_of_le (Heap.lt_size e) z) (Nat.lt_irrefl _)
 have cellK:∀ x c,X.env.cells.lookup x=some c→∀ v,s.heap.IsCell c v→h'.IsCell c v:=fun x c e v ⟨o,ho,hd⟩=>by
  have nch:c∉ch:=fun z=>(hch c z).2.2.1 x c e rfl
  by_cases hc:c∈X.fs
  ·obtain ⟨sl,q⟩:=slot c o (I.cne x c e) hc nch ho (I.freeC x c e)
   exact ⟨_,q,hd⟩
  ·exact ⟨o,keep c o (I.cne x c e) hc nch ho (I.freeC x c e),hd⟩
 refine ⟨I.ok,I.os,hg,⟨fun b o e n hb hx=>?_,fun b o e n hb hx=>?_,fun b o e n hx=>?_,fun b o e hx=>?_,fun b xs e=>tups b xs (I.base.tups b xs e),fun b o xs e=>frzs b o xs (I.base.frzs b o xs e),fun b ps e=>?_⟩,?_,fun x c e=>?_,?_,fun x c e=>?_,fun p hp=>?_,hok,I.len⟩
 ·exact keep b o (neL b o e) hb (neC b o e hx) (I.base.keep b o e n hb hx) (I.base.free b o e n hx)
 ·obtain ⟨sl,e1⟩:=I.base.slot b o e n hb hx
  obtain ⟨sl',e2⟩:=slot b _ (neL b o e) hb (neC b o e hx) e1 (I.base.free b o e n hx)
  exact ⟨sl',e2⟩
 ·obtain ⟨o',e1⟩:=I.base.there b o e hx
  exact free b o' (neC b o e hx) e1 (I.base.free b o e n hx)
 ·obtain ⟨o',e1⟩:=I.base.there b o e hx
  exact there b o' (neC b o e hx) e1
 ·obtain ⟨m1,e1⟩:=I.base.tbls b ps e
  obtain ⟨m2,e2⟩:=tbls b _ e1
  exact ⟨m1++m2,by rw [e2,Array.append_assoc]⟩
 ·obtain ⟨m,hn,hl⟩:=I.loc
  refine ⟨m,ns m hn,fun i x v e1 e2 e3=>?_⟩
  obtain ⟨u,r,l⟩:=hl i x v e1 e2 e3
  refine ⟨u,r,?_⟩
  rcases l with l | ⟨k,c,e,z⟩
  ·exact .inl l
  ·exact .inr ⟨k,c,e,cellK x c e _ z⟩
 ·obtain ⟨v,z⟩:=I.cell x c e
  exact ⟨v,cellK x c e v z⟩
 ·obtain ⟨m,⟨o,_,_,ho,_⟩,_⟩:=I.loc
  exact free _ o (fun z=>(hch _ z).2.1 rfl) ho I.free
 ·obtain ⟨v,o,ho,hd⟩:=I.cell x c e
  exact free c o (fun z=>(hch c z).2.2.1 x c e rfl) ho (I.freeC x c e)
 ·obtain ⟨e,n,ne,nf,d⟩:=I.pin p hp
  have nch:p.1∉ch:=fun z=>(hch p.1 z).2.2.2 p hp rfl
  exact ⟨keep p.1 p.2 ne nf nch e n,free p.1 p.2 nch e n,ne,nf,d⟩
theorem Inv.un {t':Nat}(I:Inv X pins σ H s)(u:Un X.fs [] H H' s.heap h')(hok:HOk X.prog X.w H' h'):Inv X pins σ H' { s with heap:=h',toks:=t' }:=by
 obtain ⟨m,⟨o,es,ep,ho,r⟩,_⟩:=id I.loc
 obtain ⟨sl,hL⟩:=u.any ho I.free (by simp)
 exact I.step (g':=s.gens) (d':=s.drawn) (ch:=[]) (fun _ z=>nomatch z) (fun b o _ hb _ e n=>u.keep b o e n hb (by simp)) (fun b o _ hb _ e n=>u.slot b o e n hb (by simp)) (fun b o _ e n=>u.free b o e n (by simp)) (fun b o _ e=>u.there b o e (by simp)) u.tups u.frzs u.tbls (fun m' hm=>by
  obtain ⟨o',es',ep',ho',r'⟩:=hm
  rw [ho] at ho';cases ho'
  exact ⟨_,es',ep',hL,r'⟩) hok I.bare
theorem Inv.call {g':Array GenState}{t':Nat}{d':Drawn}{ch:List Addr}(I:Inv X pins σ H s)(u:Un (frs X.stack) ch H H' s.heap h')(hok:HOk X.prog X.w H' h')(hg:AllBare g')
  (hch:∀ b∈ch,(b∈X.ex∨X.s₀.heap.objs.size≤b)∧b≠X.env.locals∧(∀ x c,X.env.cells.lookup x=some c→c≠b)∧∀ p∈X.pn++pins,p.1≠b) :
  Inv X pins σ H' { s with heap:=h',gens:=g',drawn:=d',toks:=t' }:=by
 obtain ⟨m,⟨o,es,ep,ho,r⟩,_⟩:=id I.loc
 obtain ⟨sl,hL⟩:=u.any ho I.free fun z=>(hch _ z).2.1 rfl
 exact I.step (ch:=ch) hch (fun b o hL hb hc e n=>u.keep b o e n (fun z=>(List.mem_cons.mp (I.stkSub b z)).elim hL hb) hc) (fun b o _ _ hc e n=>u.any e n hc) (fun b o hc e n=>u.free b o e n hc) (fun b o hc e=>u.there b o e hc) u.tups u.frzs u.tbls (fun m' hm=>by
  obtain ⟨o',es',ep',ho',r'⟩:=hm
  rw [ho] at ho';cases ho'
  exact ⟨_,es',ep',hL,r'⟩) hok hg
theorem Inv.turned {t':Nat}{it:Addr}(I:Inv X pins σ H s)(k:∀ b o,b≠it→s.heap.get? b=some o→h'.get? b=some o)(hn:H it=none)(hL:it≠X.env.locals)
  (h1:it∈X.ex∨X.s₀.heap.objs.size≤it) (h2:∀ x c,X.env.cells.lookup x=some c→c≠it) (h3:∀ p∈X.pn++pins,p.1≠it):Inv X pins σ H { s with heap:=h',toks:=t' }:=by
 have nit:∀ b u,H b=some u→b≠it:=fun b u e z=>by rw [z,hn] at e;cases e
 refine I.step (g':=s.gens) (d':=s.drawn) (ch:=[it]) (fun b hb=>?_) (fun b o _ _ hc e _=>k b o (fun z=>hc (by simp [z])) e) (fun b o _ _ hc e _=>⟨o.slots,k b o (fun z=>hc (by simp [z])) e⟩) (fun _ _ _ _ n=>n)
  (fun b o hc e=>⟨o,k b o (fun z=>hc (by simp [z])) e⟩) (fun _ _ e=>e) (fun _ _ _ e=>e) (fun b ps e=>⟨#[],by rw [e];simp⟩) (fun m hm=>?_) (fun b u e=>?_) I.bare
 ·have e:b=it:=by simpa using hb
  subst e
  exact ⟨h1,hL,h2,h3⟩
 ·obtain ⟨o,es,ep,ho,r⟩:=hm
  exact ⟨o,es,ep,k _ o (Ne.symm hL) ho,r⟩
 ·refine (I.hok b u e).stay (fun c v hc q=>k c v ?_ q) (fun _ q=>q) fun _ _ q=>q
  rcases hc with z | z
  ·rw [z];exact nit b u e
  ·exact nit c _ z
theorem Inv.tok (I:Inv X pins σ H s)(t:Nat):Inv X pins σ H { s with toks:=t }:=I.un (h':=s.heap) (t':=t) Un.refl I.hok
theorem Inv.kept {t':Nat}(I:Inv X pins σ H s)(k:∀ b u,s.heap.get? b=some u→h'.get? b=some u):Inv X pins σ H { s with heap:=h',toks:=t' }:=I.un (Un.kept k) (I.hok.kept k)
theorem Inv.laid {a:Addr}{o:HO}{t':Nat}(I:Inv X pins σ H s)(k:∀ b u,s.heap.get? b=some u→h'.get? b=some u)(hp:s.heap.objs.size≤a)(new:ObjOk X.prog X.w (upd H a o) h' a o) :
  Inv X pins σ (upd H a o) { s with heap:=h',toks:=t' }:=I.un (Un.laid k hp (I.hok.fresh hp)) (I.hok.laid k hp new)
theorem Inv.write {x e:Addr}{o:HO}{t':Nat}(I:Inv X pins σ H s)(mu:Mut (H x))(he:e=x∨H e=some (.own x))(k:∀ b u,b≠e→s.heap.get? b=some u→h'.get? b=some u)(heo:∃ u,h'.get? e=some u)
  (new:ObjOk X.prog X.w (upd H x o) h' x o):Inv X pins σ (upd H x o) { s with heap:=h',toks:=t' }:=I.un (Un.write mu he k heo) (I.hok.write mu he k heo new)
theorem Inv.pins_of {pins':List (Addr × Obj)}(I:Inv X pins σ H s)(h:∀ p∈pins',s.heap.get? p.1=some p.2∧H p.1=none∧p.1≠X.env.locals∧p.1∉X.fs∧∀ v,p.2.data ≠ .cell v):Inv X pins' σ H s:=
 ⟨I.ok,I.os,I.bare,I.base,I.loc,I.cell,I.free,I.freeC,fun p hp=>(List.mem_append.mp hp).elim (fun z=>I.pin p (List.mem_append_left _ z)) (h p),I.hok,I.len⟩
theorem nN {N:List Str}(hN:N.Nodup){i j:Nat}{x:Str}(a:N[i]?=some x)(b:N[j]?=some x):i=j:=by
 obtain ⟨h1,e1⟩:=List.getElem?_eq_some_iff.mp a
 obtain ⟨h2,e2⟩:=List.getElem?_eq_some_iff.mp b
 exact (List.getElem_inj hN).mp (e1.trans e2.symm)
theorem qB {M:Model}{A:Around}{E:Value→Shared→Prop}{i:Nat}{x:Str}{v:V}{u:Value}{Q:Unit→Shared→Prop}(I:Inv X pins σ H s)(hN:X.N.Nodup)(hi:X.N[i]?=some x)(hx:Loc X.env.scope x)(r:RelV v u)
  (h:∀ s',Inv X pins (σ.set i (some v)) H s'→(∃ a,Heap.SameBut a s.heap s'.heap∧(a=X.env.locals∨X.env.cells.lookup x=some a))→Q () s') (hf:X.fn x=true∨X.env.scope.names.lookup x=some .local:=by first | exact .inl rfl | exact .inr rfl | assumption):wpAny M A (storeName X.env x u) Q E s:=by
 obtain ⟨m,hn,hl⟩:=id I.loc
 have hcls:(X.env.scope.kind == .class || (X.env.scope.kind == .module && X.env.locals != X.env.globals))=false:=by rw [I.ok.kind];rfl
 have hiσ:i<σ.length:=by rw [I.len];exact (List.getElem?_eq_some_iff.mp hi).1
 have cne:=I.cne
 have tracked:∀ {a:Addr} {h':Heap},(∃ o,s.heap.get? a=some o∧H a=none)→Heap.SameBut a s.heap h'→HOk X.prog X.w H h':=fun {a h'} ha hs b ob e=>by
  obtain ⟨_,_,hfree⟩:=ha
  refine (I.hok b ob e).stay (fun c w' hc q=>(hs.2 c ?_).trans q) (fun _ q=>q) fun _ _ q=>q
  rintro rfl
  rcases hc with rfl | hc
  ·rw [hfree] at e;cases e
  ·rw [hfree] at hc;cases hc
 rcases hx with hk | hk
 ·refine wpAny_storeName_local hk hn (fun h' hn' hs=>?_) hcls
  obtain ⟨oL,_,_,hoL,_⟩:=id hn
  refine h _ ⟨I.ok,I.os,I.bare,⟨fun b o e n hb hx=>?_,fun b o e n hb hx=>?_,I.base.free,fun b o e hx=>?_,I.base.tups,I.base.frzs,I.base.tbls⟩,⟨_,hn',fun j y v' e1 e2 e3=>?_⟩,fun y c e=>?_,I.free,I.freeC,fun p hp=>?_,tracked ⟨oL,hoL,I.free⟩ hs,by simpa using I.len⟩ ⟨_,hs, .inl rfl⟩
  ·exact (hs.2 b (Nat.ne_of_lt (Nat.lt_of_lt_of_le (Heap.lt_size e) I.ok.above))).trans (I.base.keep b o e n hb hx)
  ·obtain ⟨sl,e1⟩:=I.base.slot b o e n hb hx
   exact ⟨sl,(hs.2 b (Nat.ne_of_lt (Nat.lt_of_lt_of_le (Heap.lt_size e) I.ok.above))).trans e1⟩
  ·obtain ⟨o',e1⟩:=I.base.there b o e hx
   exact ⟨o',(hs.2 b (Nat.ne_of_lt (Nat.lt_of_lt_of_le (Heap.lt_size e) I.ok.above))).trans e1⟩
  ·by_cases hj:j=i
   ·subst hj
    rw [hi] at e1;cases e1
    rw [List.getElem?_set_self hiσ] at e2
    cases e2
    exact ⟨u,r, .inl ⟨hk,by simp⟩⟩
   ·rw [List.getElem?_set_ne (Ne.symm hj)] at e2
    obtain ⟨u',r',q⟩:=hl j y v' e1 e2 e3
    refine ⟨u',r',?_⟩
    rcases q with ⟨k,e⟩ | ⟨k,c,e,z⟩
    ·refine .inl ⟨k,?_⟩
     have:y≠x:=fun e=>hj (nN hN e1 (e ▸ hi))
     simp [this,e]
    ·exact .inr ⟨k,c,e,z.sameBut hs (cne y c e)⟩
  ·obtain ⟨w',z⟩:=I.cell y c e
   exact ⟨w',z.sameBut hs (cne y c e)⟩
  ·obtain ⟨e,n,ne,nf,d⟩:=I.pin p hp
   exact ⟨(hs.2 p.1 ne).trans e,n,ne,nf,d⟩
 ·have hfn:X.fn x=true:=by
   rcases hf with z | z
   ·exact z
   ·rw [z] at hk;cases hk
  obtain ⟨c,hc⟩:=I.ok.has x (.inl hk)
  obtain ⟨w',z⟩:=I.cell x c hc
  refine wpAny_storeName_cell I.ok.kind hk hc z (fun h' hc' hs=>?_)
  obtain ⟨oc,hoc,hocd⟩:=id z
  refine h { s with heap:=h' } ⟨I.ok,I.os,I.bare,⟨fun b o e n hb hx=>?_,fun b o e n hb hx=>?_,I.base.free,fun b o e hx=>?_,I.base.tups,I.base.frzs,I.base.tbls⟩,⟨m,hn.sameBut hs (Ne.symm (cne x c hc)),fun j y v' e1 e2 e3=>?_⟩,fun y c' e=>?_,I.free,I.freeC,fun p hp=>?_,tracked ⟨oc,hoc,I.freeC x c hc⟩ hs,by simpa using I.len⟩ ⟨c,hs, .inr hc⟩
  ·exact (hs.2 b (Nat.ne_of_lt (Nat.lt_of_lt_of_le (Heap.lt_size e) (I.ok.cab x c hfn hc)))).trans (I.base.keep b o e n hb hx)
  ·obtain ⟨sl,e1⟩:=I.base.slot b o e n hb hx
   exact ⟨sl,(hs.2 b (Nat.ne_of_lt (Nat.lt_of_lt_of_le (Heap.lt_size e) (I.ok.cab x c hfn hc)))).trans e1⟩
  ·obtain ⟨o',e1⟩:=I.base.there b o e hx
   exact ⟨o',(hs.2 b (Nat.ne_of_lt (Nat.lt_of_lt_of_le (Heap.lt_size e) (I.ok.cab x c hfn hc)))).trans e1⟩
  ·by_cases hj:j=i
   ·subst hj
    rw [hi] at e1;cases e1
    rw [List.getElem?_set_self hiσ] at e2
    cases e2
    exact ⟨u,r, .inr ⟨.inl hk,c,hc,hc'⟩⟩
   ·rw [List.getElem?_set_ne (Ne.symm hj)] at e2
    obtain ⟨u',r',q⟩:=hl j y v' e1 e2 e3
    refine ⟨u',r',?_⟩
    rcases q with q | ⟨k,c',e,z'⟩
    ·exact .inl q
    ·refine .inr ⟨k,c',e,z'.sameBut hs ?_⟩
     rintro rfl
     exact hj (nN hN e1 (I.ok.inj _ _ _ e hc ▸ hi))
  ·by_cases hcc:c'=c
   ·subst hcc;exact ⟨_,hc'⟩
   ·obtain ⟨w2,z2⟩:=I.cell y c' e
    exact ⟨w2,z2.sameBut hs hcc⟩
  ·obtain ⟨e,n,ne,nf,d⟩:=I.pin p hp
   refine ⟨(hs.2 p.1 ?_).trans e,n,ne,nf,d⟩
   intro q
   rw [q,hoc] at e
   have q':oc=p.2:=Option.some.inj e
   exact d w' (by rw [← q'];exact hocd)
theorem kK {M:Model}{A:Around}{E:Value→Shared→Prop}{i:Nat}{x:Str}{v:V}{u:Value}{Q:Unit→Shared→Prop}(I:Inv X pins σ H s)(hN:X.N.Nodup)(hi:X.N[i]?=some x)(hx:Loc X.env.scope x)(r:RelV v u)
  (h:∀ s',Inv X pins (σ.set i (some v)) H s'→Q () s') (hf:X.fn x=true∨X.env.scope.names.lookup x=some .local:=by first | exact .inl rfl | exact .inr rfl | assumption):wpAny M A (storeName X.env x u) Q E s:=
 qB I hN hi hx r (fun s' I' _=>h s' I') hf
theorem Inv.call' {s':Shared}{ch:List Addr}(I:Inv X pins σ H s)(ho:s'.os=s.os)(u:Un (frs X.stack) ch H H' s.heap s'.heap)(hok:HOk X.prog X.w H' s'.heap)(hg:AllBare s'.gens)
  (hch:∀ b∈ch,(b∈X.ex∨X.s₀.heap.objs.size≤b)∧b≠X.env.locals∧(∀ x c,X.env.cells.lookup x=some c→c≠b)∧∀ p∈X.pn++pins,p.1≠b):Inv X pins σ H' s':=by
 obtain ⟨h',g',d',t',o'⟩:=s'
 have e:o'=s.os:=ho
 subst e
 exact I.call (g':=g') (t':=t') (d':=d') u hok hg hch
end
noncomputable abbrev XK:=Value→Option Addr→Hp→Prop
noncomputable abbrev St:=List (Option V)
noncomputable abbrev VK:=V→Hp→Prop
noncomputable abbrev TE:=St→Hp→VK→Prop
noncomputable abbrev TT:=St→Hp→(Bool→Hp→Prop)→Prop
noncomputable abbrev TA:=St→Hp→(List V→Hp→Prop)→Prop
structure lO where
 nx:St→Hp→Prop
 rt:VK
 bk:St→Hp→Prop:=fun _ _=>False
 ct:St→Hp→Prop:=fun _ _=>False
noncomputable abbrev TS:=lO→St→Hp→Prop
noncomputable def EP (X:Cx) (pins:List (Addr × Obj)) (σ:St) (Q:VK) (u:Value) (s':Shared):Prop:=∃ v H',Inv X pins σ H' s'∧RelV v u∧Q v H'
noncomputable def TP (X:Cx) (pins:List (Addr × Obj)) (σ:St) (Q:Bool→Hp→Prop) (b:Bool) (s':Shared):Prop:=∃ H',Inv X pins σ H' s'∧Q b H'
noncomputable def AP (X:Cx) (pins:List (Addr × Obj)) (σ:St) (Q:List V→Hp→Prop) (us:List Value) (s':Shared):Prop:=∃ vs H',Inv X pins σ H' s'∧Vals vs us∧Q vs H'
noncomputable def SP (X:Cx) (pins:List (Addr × Obj)) (D:lO) (f:Flow) (s':Shared):Prop:=
 match f with
 | .next=>∃ σ' H',Inv X pins σ' H' s'∧D.nx σ' H'
 | .brk=>∃ σ' H',Inv X pins σ' H' s'∧D.bk σ' H'
 | .cont=>∃ σ' H',Inv X pins σ' H' s'∧D.ct σ' H'
 | .ret u=>∃ v σ' H',Inv X pins σ' H' s'∧RelV v u∧D.rt v H'
noncomputable def PE (X:Cx) (e:Expr) (t:TE):Prop:=
 ∀ (pins:List (Addr × Obj)) (s:Shared) (σ:St) (H:Hp) (Q:VK),Inv X pins σ H s→t σ H Q→wpAny (model X.prog X.w) X.A (eval e X.env) (EP X pins σ Q) X.xe s
noncomputable def PT (X:Cx) (e:Expr) (t:TT):Prop:=
 ∀ (pins:List (Addr × Obj)) (s:Shared) (σ:St) (H:Hp) (Q:Bool→Hp→Prop),Inv X pins σ H s→t σ H Q→wpAny (model X.prog X.w) X.A (isTrue e X.env (eval e X.env)) (TP X pins σ Q) X.xe s
noncomputable def PW (X:Cx) (e:Expr) (t:TT):Prop:=
 ∀ (whole:Sem Value) (pins:List (Addr × Obj)) (s:Shared) (σ:St) (H:Hp) (Q:Bool→Hp→Prop),Inv X pins σ H s→t σ H Q→wpAny (model X.prog X.w) X.A (isTrue e X.env whole) (TP X pins σ Q) X.xe s
theorem PW.pt {X:Cx}{e:Expr}{t:TT}(h:PW X e t):PT X e t:=h _
noncomputable def PA (X:Cx) (es:List Expr) (t:TA):Prop:=
 ∀ (pos:Pos) (pins:List (Addr × Obj)) (s:Shared) (σ:St) (H:Hp) (Q:List V→Hp→Prop),Inv X pins σ H s→t σ H Q→wpAny (model X.prog X.w) X.A (spliced (backTo pos (starEach es X.env))) (AP X pins σ Q) X.xe s
noncomputable def PS (X:Cx) (st:Stmt) (t:TS):Prop:=
 ∀ (pins:List (Addr × Obj)) (s:Shared) (σ:St) (H:Hp) (D:lO),Inv X pins σ H s→t D σ H→wpAny (model X.prog X.w) X.A (exec st X.env) (SP X pins D) X.xe s
noncomputable def PSs (X:Cx) (st:List Stmt) (t:TS):Prop:=
 ∀ (pins:List (Addr × Obj)) (s:Shared) (σ:St) (H:Hp) (D:lO),Inv X pins σ H s→t D σ H→wpAny (model X.prog X.w) X.A (execs st X.env) (SP X pins D) X.xe s
theorem thn {α:Type}{t:Sem α}{Q Q':α→Shared→Prop}{M:Model}{A:Around}{E:Value→Shared→Prop}{s:Shared}(h:wpAny M A t Q E s)(hQ:∀ a s,Q a s→Q' a s):wpAny M A t Q' E s:=wpAny_mono h hQ fun _ _ x=>x
end L2
namespace L2
open PySem PySem.Spec PyProof.Rows
section
variable {X:Cx}
inductive aAH (i:Nat) (σ:St) (H:Hp) (Q:VK):Prop
 | mk (v:V) (h:σ[i]?=some (some v)) (q:Q v H):aAH i σ H Q
noncomputable def aD (i:Nat):TE:=fun σ H Q=>aAH i σ H Q
noncomputable def tC (v:V):TE:=fun _ H Q=>Q v H
theorem aBe {i:Nat}{x:Str}{pos:Pos}(hN:X.N[i]?=some x)(hv:Vis X.env.scope x)(hd:(x == ("__debug__" : Str))=false:=by decide)(hcd:(x == ("__classdict__" : Str))=false:=by decide):PE X (.Name x pos) (aD i):=by
 intro pins s σ H Q I h
 obtain ⟨v,e,h⟩:=h
 obtain ⟨m,hn,hl⟩:=I.loc
 obtain ⟨u,r,l⟩:=hl i x v hN e hv
 have fin:EP X pins σ Q u s:=⟨v,H,I,r,h⟩
 rcases l with ⟨hk,hm⟩ | ⟨hk,c,hc,hcell⟩
 ·exact wpAny_Name (wpAny_loadName_local I.ok.kind hk hn hm fin) hd
 ·rcases hk with hk | hk
  ·exact wpAny_Name (wpAny_loadName_cell I.ok.kind hk hc hcell fin) hd
  ·exact wpAny_Name (wpAny_loadName_free I.ok.kind hk hc hcell fin hcd) hd
theorem aG {i j pos}:PE X (.Constant (.int i) j pos) (tC (.int i)):=fun _ _ _ H _ I h=>wpAny_Constant_int ⟨.int i,H,I.tok _,⟨_,rfl⟩,h⟩
theorem jV {b j pos}:PE X (.Constant (.bool b) j pos) (tC (.bl b)):=fun _ _ _ H _ I h=>Constant_bool ⟨.bl b,H,I,rfl,h⟩
theorem yX {j pos}:PE X (.Constant .none j pos) (tC .non):=fun _ _ _ H _ I h=>Constant_none ⟨.non,H,I,rfl,h⟩
theorem kZ {x j pos}:PE X (.Constant (.str x) j pos) (tC (.str x)):=fun _ _ _ H _ I h=>Calls.Constant_str ⟨.str x,H,I.tok _,⟨_,rfl⟩,h⟩
noncomputable def Gl (X:Cx) (x:Str):Prop:=X.env.kindOf x=some .globalImplicit
theorem nM {E:Value→Shared→Prop}{pins:List (Addr × Obj)}{s:Shared}{σ:St}{H:Hp}{x:Str}{u:Value}{pos:Pos}{Q:Value→Shared→Prop}(I:Inv X pins σ H s)(hg:Gl X x)(hm:X.mg x=some u)(h:Q u s)
  (hd:(x == ("__debug__" : Str))=false:=by decide):wpAny (model X.prog X.w) X.A (eval (.Name x pos) X.env) Q E s:=
 Calls.Name_function_global I.ok.kind hg (Calls.loadGlobal_global (by rw [I.ok.glob];exact I.mod.glob.keeps I.bk) hm h) hd
theorem pE {E:Value→Shared→Prop}{pins:List (Addr × Obj)}{s:Shared}{σ:St}{H:Hp}{x:Str}{u:Value}{pos:Pos}{Q:Value→Shared→Prop}(I:Inv X pins σ H s)(hg:Gl X x)(hm:X.mg x=none)(hv:bootBuiltins x=some u)(h:Q u s)
  (hn:x≠"__name__":=by decide) (hd:(x == ("__debug__" : Str))=false:=by decide):wpAny (model X.prog X.w) X.A (eval (.Name x pos) X.env) Q E s:=by
 obtain ⟨mb,h1,h2⟩:=I.mod.blt
 exact Calls.Name_function_global I.ok.kind hg (Calls.loadGlobal_builtin (by rw [I.ok.glob];exact I.mod.glob.keeps I.bk) hm (by rw [I.ok.blt];exact h1.keeps I.bk) ((h2 x hn).trans hv) h) hd
theorem eY {x:Str}{v:V}{u:Value}{pos:Pos}(hg:Gl X x)(hm:X.mg x=some u)(r:RelV v u)(hd:(x == ("__debug__" : Str))=false:=by decide):PE X (.Name x pos) (tC v):=
 fun _ _ _ H _ I h=>nM I hg hm ⟨v,H,I,r,h⟩ hd
theorem jC {x:Str}{v:V}{u:Value}{pos:Pos}(hg:Gl X x)(hm:X.mg x=none)(hv:bootBuiltins x=some u)(r:RelV v u)(hn:x≠"__name__":=by decide)(hd:(x == ("__debug__" : Str))=false:=by decide):PE X (.Name x pos) (tC v):=
 fun _ _ _ H _ I h=>pE I hg hm hv ⟨v,H,I,r,h⟩ hn hd
variable {a b:Expr}{ta tb:TE}{pos:Pos}
noncomputable def tB (t:TE):TT:=fun σ H Q=>t σ H fun x H1=>∃ c,x = .bl c∧Q c H1
theorem fI {e:Expr}{t:TE}(h:PE X e t)(he:∀ whole,isTrue e X.env whole=(do let v ← whole;standAt e.pos;holding [v] (truthy v)):=by intro _;rfl):PT X e (tB t):=by
 intro pins s σ H Q I hw
 refine isTrue_plain (thn (h pins s σ H _ I hw) fun v s1 ⟨x,H1,I1,r1,q1⟩=>?_) (he _)
 obtain ⟨d,rfl,q⟩:=q1
 cases r1
 exact wpAny_truthy_bool ⟨H1,I1,q⟩
variable {tA tB':TT}{rest:List Expr}
noncomputable def aCR (t u:TT):TT:=fun σ H Q=>t σ H fun c H1=>if c=true then u σ H1 Q else Q false H1
noncomputable def tOr (t u:TT):TT:=fun σ H Q=>t σ H fun c H1=>if c=true then Q true H1 else u σ H1 Q
noncomputable def sA (t:TT):TT:=fun σ H Q=>t σ H fun c H1=>Q (!c) H1
theorem aAr (ha:PT X a tA):PW X (.BoolOp .And [a] pos) tA:=by
 intro wh pins s σ H Q I h
 refine isTrue_and (thn (ha pins s σ H Q I h) fun c s1 e=>?_)
 cases c with
 | true=>exact isTrue_and_nil e
 | false=>exact e
theorem mV (ha:PT X a tA):PW X (.BoolOp .Or [a] pos) tA:=by
 intro wh pins s σ H Q I h
 refine isTrue_or (thn (ha pins s σ H Q I h) fun c s1 e=>?_)
 cases c with
 | false=>exact isTrue_or_nil e
 | true=>exact e
theorem aBg (ha:PT X a tA)(hb:PW X (.BoolOp .And (b :: rest) pos) tB'):PW X (.BoolOp .And (a :: b :: rest) pos) (aCR tA tB'):=by
 intro wh pins s σ H Q I h
 refine isTrue_and (thn (ha pins s σ H _ I h) fun c s1 ⟨H1,I1,q1⟩=>?_)
 cases c with
 | true=>exact hb wh pins s1 σ H1 Q I1 q1
 | false=>exact ⟨H1,I1,q1⟩
theorem pT (ha:PT X a tA)(hb:PW X (.BoolOp .Or (b :: rest) pos) tB'):PW X (.BoolOp .Or (a :: b :: rest) pos) (tOr tA tB'):=by
 intro wh pins s σ H Q I h
 refine isTrue_or (thn (ha pins s σ H _ I h) fun c s1 ⟨H1,I1,q1⟩=>?_)
 cases c with
 | true=>exact ⟨H1,I1,q1⟩
 | false=>exact hb wh pins s1 σ H1 Q I1 q1
theorem fJ (ha:PT X a tA):PT X (.UnaryOp .Not a pos) (sA tA):=by
 intro pins s σ H Q I h
 exact isTrue_not (ha pins s σ H (fun c H1=>Q (!c) H1) I h)
noncomputable def xP (ta tb:TE):TE:=fun σ H Q=>ta σ H fun x H1=>∃ c,x = .bl c∧if c=true then tb σ H1 Q else Q (.bl false) H1
noncomputable def aAO (ta:TE):TE:=fun σ H Q=>ta σ H fun x H1=>∃ c,x = .bl c∧Q (.bl (!c)) H1
theorem tY {op}{t:TE}(h:PE X a t):PE X (.BoolOp op [a] pos) t:=fun pins s σ H Q I hw=>BoolOp_one (h pins s σ H Q I hw)
theorem uY (ha:PE X a ta)(hb:PE X (.BoolOp .And (b :: rest) pos) tb):PE X (.BoolOp .And (a :: b :: rest) pos) (xP ta tb):=by
 intro pins s σ H Q I h
 refine BoolOp_and (thn (ha pins s σ H _ I h) fun v s1 ⟨x,H1,I1,r1,q1⟩=>?_)
 obtain ⟨c,rfl,q1⟩:=q1
 cases r1
 refine wpAny_truthy_bool ?_
 cases c with
 | true=>exact hb pins s1 σ H1 Q I1 q1
 | false=>exact ⟨.bl false,H1,I1,rfl,q1⟩
theorem aAC (ha:PE X a ta):PE X (.UnaryOp .Not a pos) (aAO ta):=by
 intro pins s σ H Q I h
 refine UnaryOp_ (thn (ha pins s σ H _ I h) fun v s1 ⟨x,H1,I1,r1,q1⟩=>?_)
 obtain ⟨c,rfl,q1⟩:=q1
 cases r1
 exact not_of (wpAny_truthy_bool ⟨.bl (!c),H1,I1,rfl,q1⟩)
end
end L2
namespace L2
open PySem PySem.Spec PyProof.Rows
noncomputable def SqL (K:PySem.W.Frag) (H:Hp) (a:Addr) (xs:List V):Prop:=
 Rd H a (.lst xs) ∨
  ∃ (o:Obj) (its:Array Value) (n:Nat),K.lookup a=some o∧o.cls = .type "list"∧o.dict=none∧o.data = .seq its n∧its.size≤sizeLine∧Vals xs its.toList
noncomputable def SqT (K:PySem.W.Frag) (H:Hp) (a:Addr) (xs:List V):Prop:=
 Rd H a (.tup xs) ∨
  ∃ (o:Obj) (its:Array Value) (n:Nat),K.lookup a=some o∧o.cls = .type "tuple"∧o.dict=none∧o.data = .seq its n∧its.size≤sizeLine∧Vals xs its.toList
noncomputable def aDg:Value→Option V
 | .none=>some .non
 | .bool b=>some (.bl b)
 | .int i _=>some (.int i)
 | .str x _=>some (.str x)
 | .bytes b _=>some (.byt b)
 | .float b _=>some (.flt b)
 | .ref a=>some (.ref a)
 | .type n=>some (.ty n)
 | _=>none
theorem RelV.abs {x:V}{u:Value}(r:RelV x u):aDg u=some x:=by
 cases x with
 | non=>cases r;rfl
 | bl _=>cases r;rfl
 | int _=>obtain ⟨t,rfl⟩:=r;rfl
 | str _=>obtain ⟨t,rfl⟩:=r;rfl
 | byt _=>obtain ⟨t,rfl⟩:=r;rfl
 | flt _=>obtain ⟨t,rfl⟩:=r;rfl
 | ref _=>cases r;rfl
 | ty _=>cases r;rfl
theorem RelV.inj {x y:V}{u:Value}(r:RelV x u)(q:RelV y u):x=y:=Option.some.inj (r.abs.symm.trans q.abs)
theorem Vals.inj:∀ {xs ys:List V} {us:List Value},Vals xs us→Vals ys us→xs=ys
 | _,_,_, .nil, .nil=>rfl
 | _,_,_, .cons r t, .cons r' t'=>by rw [r.inj r',Vals.inj t t']
section
variable {X:Cx}{pins:List (Addr × Obj)}{σ:St}{H:Hp}{s:Shared}{a:Addr}{xs ys:List V}
theorem SqL.of {K:PySem.W.Frag}(h:H a=some (.lst xs)):SqL K H a xs := .inl (.inl h)
theorem SqT.of {K:PySem.W.Frag}(h:H a=some (.tup xs)):SqT K H a xs := .inl (.inl h)
theorem Inv.list (I:Inv X pins σ H s)(h:SqL X.K H a xs):∃ its:List Value,Vals xs its∧PlainL s.heap a its.toArray∧xs.length≤sizeLine:=by
 rcases h with h | ⟨o,its,n,hk,hc,hd,hs,hz,r⟩
 ·obtain ⟨z,its,n,r,e⟩:=h.ok I.hok
  exact ⟨its,r,⟨_,n,e,rfl,rfl,rfl⟩,z⟩
 ·refine ⟨its.toList,r,⟨o,n,I.kIn a o hk,hc,hd,by simpa using hs⟩,?_⟩
  have e:=r.length
  simp only [Array.length_toList] at e
  omega
theorem Inv.tuple (I:Inv X pins σ H s)(h:SqT X.K H a xs):∃ its:List Value,Vals xs its∧IsTup s.heap a its.toArray∧xs.length≤sizeLine:=by
 rcases h with h | ⟨o,its,n,hk,hc,_,hs,hz,r⟩
 ·obtain ⟨z,its,r,p⟩:=h.ok I.hok
  exact ⟨its,r,p.tup,z⟩
 ·refine ⟨its.toList,r,⟨o,I.kIn a o hk,hc,n,by simpa using hs⟩,?_⟩
  have e:=r.length
  simp only [Array.length_toList] at e
  omega
theorem Inv.list_inj (I:Inv X pins σ H s)(h:SqL X.K H a xs)(h':SqL X.K H a ys):xs=ys:=by
 obtain ⟨its,r,⟨o,n,e,_,_,d⟩,_⟩:=I.list h
 obtain ⟨its',r',⟨o',n',e',_,_,d'⟩,_⟩:=I.list h'
 rw [e] at e';cases e'
 rw [d] at d'
 injection d' with d1 _
 have:its=its':=by simpa using congrArg Array.toList d1
 subst this
 exact r.inj r'
theorem Inv.tuple_inj (I:Inv X pins σ H s)(h:SqT X.K H a xs)(h':SqT X.K H a ys):xs=ys:=by
 obtain ⟨its,r,⟨o,e,_,n,d⟩,_⟩:=I.tuple h
 obtain ⟨its',r',⟨o',e',_,n',d'⟩,_⟩:=I.tuple h'
 rw [e] at e';cases e'
 rw [d] at d'
 injection d' with d1 _
 have:its=its':=by simpa using congrArg Array.toList d1
 subst this
 exact r.inj r'
end
noncomputable abbrev Cx.wish (X:Cx) (E:Value→Shared→Prop):Cx:={ X with xe:=E }
noncomputable abbrev Cx.nox (X:Cx):Cx:=X.wish fun _ _=>False
theorem Cx.Ok.wish {X:Cx}(ok:X.Ok)(E:Value→Shared→Prop):(X.wish E).Ok:=
 ⟨ok.mod,ok.kind,ok.glob,ok.blt,ok.above,ok.inj,ok.has,ok.cab,ok.hd,ok.frames,ok.stk,ok.exf,ok.bs,ok.bsz,ok.noex,ok.exfs,ok.funs,ok.frf⟩
theorem Cx.Ok.unwish {X:Cx}{E:Value→Shared→Prop}(ok:(X.wish E).Ok):X.Ok:=
 ⟨ok.mod,ok.kind,ok.glob,ok.blt,ok.above,ok.inj,ok.has,ok.cab,ok.hd,ok.frames,ok.stk,ok.exf,ok.bs,ok.bsz,ok.noex,ok.exfs,ok.funs,ok.frf⟩
section
variable {X:Cx}{pins:List (Addr × Obj)}{σ:St}{H:Hp}{s:Shared}{E:Value→Shared→Prop}
theorem Inv.wish (I:Inv X pins σ H s)(E:Value→Shared→Prop):Inv (X.wish E) pins σ H s:=⟨I.ok.wish E,I.os,I.bare,I.base,I.loc,I.cell,I.free,I.freeC,I.pin,I.hok,I.len⟩
theorem Inv.unwish (I:Inv (X.wish E) pins σ H s):Inv X pins σ H s:=⟨I.ok.unwish,I.os,I.bare,I.base,I.loc,I.cell,I.free,I.freeC,I.pin,I.hok,I.len⟩
theorem SP.unwish {D:lO}{f:Flow}{s':Shared}(h:SP (X.wish E) pins D f s'):SP X pins D f s':=by
 cases f with
 | next=>obtain ⟨σ',H',I,q⟩:=h;exact ⟨σ',H',I.unwish,q⟩
 | brk=>obtain ⟨σ',H',I,q⟩:=h;exact ⟨σ',H',I.unwish,q⟩
 | cont=>obtain ⟨σ',H',I,q⟩:=h;exact ⟨σ',H',I.unwish,q⟩
 | ret u=>obtain ⟨v,σ',H',I,r,q⟩:=h;exact ⟨v,σ',H',I.unwish,r,q⟩
theorem PT.nox {e:Expr}{t:TT}(h:PT X.nox e t):PT X e t:=fun pins s σ H Q I hw=>
 wpAny_mono (h pins s σ H Q (I.wish _) hw) (fun _ _ ⟨H',I',q⟩=>⟨H',I'.unwish,q⟩) fun _ _ z=>False.elim z
theorem PSs.nox {st:List Stmt}{t:TS}(h:PSs X.nox st t):PSs X st t:=fun pins s σ H D I hw=>
 wpAny_mono (h pins s σ H D (I.wish _) hw) (fun _ _ q=>q.unwish) fun _ _ z=>False.elim z
end
section
variable {X:Cx}{st:Stmt}{rest:List Stmt}{t u:TS}{e:Expr}{te:TE}{pos:Pos}
noncomputable def aL:TS:=fun D σ H=>D.nx σ H
noncomputable def aR (t u:TS):TS:=fun D σ H=>t { D with nx:=u D } σ H
theorem aH:PSs X [] aL:=fun _ _ σ H _ I h=>wpAny_execs_nil ⟨σ,H,I,h⟩
theorem aA (h1:PS X st t)(h2:PSs X rest u):PSs X (st :: rest) (aR t u):=by
 intro pins s σ H D I h
 refine wpAny_execs_cons (thn (h1 pins s σ H { D with nx:=u D } I h) fun f s1 q=>?_)
 cases f with
 | next=>
  obtain ⟨σ',H',I',q⟩:=q
  exact h2 pins s1 σ' H' D I' q
 | ret v=>exact q
 | brk=>exact q
 | cont=>exact q
theorem Inv.quiet {pins:List (Addr × Obj)}{σ:St}{H:Hp}{s:Shared}(I:Inv X pins σ H s):interactive X.env=false:=by simp [interactive,I.ok.kind]
noncomputable def nP (te:TE):TS:=fun D σ H=>te σ H fun _ H1=>D.nx σ H1
theorem fO (he:PE X e te)(hs:swapsWith e none pos.line X.env=pure false:=by rfl):PS X (.Expr e pos) (nP te):=by
 intro pins s σ H D I h
 exact wpAny_Expr_any (thn (he pins s σ H _ I h) fun v s1 ⟨x,H1,I1,r1,q1⟩=>⟨σ,H1,I1,q1⟩) I.quiet hs
noncomputable def eX (te:TE):TS:=fun D σ H=>te σ H D.rt
theorem bO (he:PE X e te):PS X (.Return (some e) pos) (eX te):=by
 intro pins s σ H D I h
 exact wpAny_Return_some (thn (he pins s σ H _ I h) fun v s1 ⟨x,H1,I1,r1,q1⟩=>⟨x,σ,H1,I1,r1,q1⟩)
noncomputable def eM (c:TT) (t u:TS):TS:=fun D σ H=>c σ H fun b H1=>if b=true then t D σ H1 else u D σ H1
theorem dL {c:Expr}{a b:List Stmt}{tc:TT}(hc:PT X c tc)(ha:PSs X a t)(hb:PSs X b u):PS X (.If c a b pos) (eM tc t u):=by
 intro pins s σ H D I h
 refine wpAny_If (thn (hc pins s σ H _ I h) fun d s1 ⟨H1,I1,q1⟩=>?_)
 cases d with
 | true=>exact ha pins s1 σ H1 D I1 q1
 | false=>exact hb pins s1 σ H1 D I1 q1
end
noncomputable abbrev TG:=V→St→Hp→(St→Hp→Prop)→Prop
noncomputable abbrev TGs:=List V→St→Hp→(St→Hp→Prop)→Prop
noncomputable def PG (X:Cx) (target:Expr) (t:TG):Prop:=
 ∀ (pins:List (Addr × Obj)) (s:Shared) (σ:St) (H:Hp) (v:V) (u:Value) (Q:St→Hp→Prop),Inv X pins σ H s→RelV v u→t v σ H Q →
  wpAny (model X.prog X.w) X.A (assign target X.env u) (fun _ s'=>∃ σ' H',Inv X pins σ' H' s'∧Q σ' H') X.xe s
noncomputable def PGs (X:Cx) (ts:List Expr) (t:TGs):Prop:=
 ∀ (pins:List (Addr × Obj)) (s:Shared) (σ:St) (H:Hp) (vs:List V) (us:List Value) (Q:St→Hp→Prop),Inv X pins σ H s→Vals vs us→t vs σ H Q →
  wpAny (model X.prog X.w) X.A (assignInOrder ((assignEach ts X.env).map (·.2)) us) (fun _ s'=>∃ σ' H',Inv X pins σ' H' s'∧Q σ' H') X.xe s
noncomputable abbrev aCE:=V→V→V→Hp→(Hp→Prop)→Prop
noncomputable def aCJ (X:Cx) (t:aCE):Prop:=
 ∀ (pins:List (Addr × Obj)) (s:Shared) (σ:St) (H:Hp) (o i v:V) (ov iv u:Value) (Q:Hp→Prop),Inv X pins σ H s→RelV o ov→RelV i iv→RelV v u→t o i v H Q →
  wpAny (model X.prog X.w) X.A (setItem ov iv u) (fun _ s'=>∃ H',Inv X pins σ H' s'∧Q H') X.xe s
section
variable {X:Cx}{pos:Pos}
noncomputable def aN (i:Nat):TG:=fun v σ H Q=>Q (σ.set i (some v)) H
theorem bR {i:Nat}{x:Str}(hN:X.N.Nodup)(hi:X.N[i]?=some x)(hx:Loc X.env.scope x)(hf:X.fn x=true∨X.env.scope.names.lookup x=some .local:=by first | exact .inl rfl | exact .inr rfl | assumption):PG X (.Name x pos) (aN i):=by
 intro pins s σ H v u Q I r h
 exact wpAny_assign_Name (kK I hN hi hx r (fun s' I'=>⟨_,H,I',h⟩) hf)
noncomputable def aBK:TGs:=fun vs σ H Q=>vs=[]∧Q σ H
noncomputable def rB (t:TG) (u:TGs):TGs:=fun vs σ H Q=>∃ v r,vs=v :: r∧t v σ H fun σ' H'=>u r σ' H' Q
theorem qO:PGs X [] aBK:=by
 intro pins s σ H vs us Q I r h
 obtain ⟨e,h⟩:=h
 subst e
 cases r
 exact assignInOrder_nil ⟨σ,H,I,h⟩
theorem gH {e:Expr}{es:List Expr}{t:TG}{u:TGs}(h1:PG X e t)(h2:PGs X es u)
  (hs:(assignEach (e :: es) X.env).map (·.2)=assign e X.env :: (assignEach es X.env).map (·.2):=by rfl):PGs X (e :: es) (rB t u):=by
 intro pins s σ H vs us Q I r h
 obtain ⟨v,vr,e1,h⟩:=h
 subst e1
 cases r with
 | cons r rr=>
  rw [hs]
  refine assignInOrder_cons (thn (h1 pins s σ H _ _ _ I r h) fun _ s1 ⟨σ1,H1,I1,q1⟩=>?_)
  exact h2 pins s1 σ1 H1 _ _ Q I1 rr q1
noncomputable def aBv (K:PySem.W.Frag) (n:Nat) (t:TGs):TG:=fun v σ H Q=>∃ a xs,v = .ref a∧SqT K H a xs∧xs.length=n∧t xs σ H Q
theorem aAF {es:List Expr}{k:Nat}{t:TGs}{n:Nat}(hc:X.calm=true)(h:PGs X es t)
  (hn:(assignEach es X.env).length=n:=by rfl) (hst:(assignEach es X.env).findIdx? (·.1)=none:=by rfl):PG X (.Tuple es k pos) (aBv X.K n t):=by
 intro pins s σ H v u Q I r hw
 obtain ⟨a,xs,e1,hq,hl,hw⟩:=hw
 subst e1
 cases r
 obtain ⟨its,rv,ht,hz⟩:=I.tuple hq
 refine assign_Tuple_tuple (I.ok.hd hc) ht (by simp [hn,← hl,rv.length]) hst fun h' hx=>?_
 have I1:Inv X pins σ H { s with heap:=h' }:=I.kept (t':=s.toks) fun b o e=>hx b o (Nat.ne_of_lt (Heap.lt_size e)) e
 exact h pins _ σ H xs _ Q I1 (by simpa using rv) hw
noncomputable def kF (to ti:TE) (t:aCE):TG:=fun v σ H Q=>to σ H fun o H1=>ti σ H1 fun i H2=>t o i v H2 fun H3=>Q σ H3
theorem lG {o i:Expr}{to ti:TE}{t:aCE}(ho:PE X o to)(hi:PE X i ti)(hs:aCJ X t)
  (ha:∀ v,assign (.Subscript o i pos) X.env v=(do
   let ov ← holding [v] (eval o X.env)
   let iv ← holding [v,ov] (eval i X.env)
   standAt pos
   holding [v,ov,iv] (setItem ov iv v)
   release [v,ov,iv] []):=by intro _;rfl):PG X (.Subscript o i pos) (kF to ti t):=by
 intro pins s σ H v u Q I r h
 rw [ha]
 refine wpAny_bind (wpAny_holding (thn (ho pins s σ H _ I h) fun ov s1 ⟨x,H1,I1,r1,q1⟩=>?_))
 refine wpAny_bind (wpAny_holding (thn (hi pins s1 σ H1 _ I1 q1) fun iv s2 ⟨y,H2,I2,r2,q2⟩=>?_))
 refine wpAny_bind (wpAny_standAt (wpAny_bind (wpAny_holding (thn (hs pins s2 σ H2 x y v ov iv u _ I2 r1 r2 r q2) fun _ s3 ⟨H3,I3,q3⟩=>?_))))
 exact wpAny_release ⟨σ,H3,I3,q3⟩
noncomputable def bW (te:TE) (g:TG):TS:=fun D σ H=>te σ H fun x H1=>g x σ H1 D.nx
theorem jM {tg e:Expr}{te:TE}{g:TG}(he:PE X e te)(hg:PG X tg g)(hs:swapsWithSole [tg] e pos.line X.env=pure false:=by rfl)(hw:swappedStores [tg] e X.env=pure none:=by rfl)
  (h1:(assignEach [tg] X.env).map (·.2)=[assign tg X.env]:=by rfl):PS X (.Assign [tg] e pos) (bW te g):=by
 intro pins s σ H D I h
 refine wpAny_Assign_stores (thn (he pins s σ H _ I h) fun v s1 ⟨x,H1,I1,r1,q1⟩=>?_) hs hw
 rw [h1]
 exact thn (hg pins s1 σ H1 x v _ I1 r1 q1) fun _ s2 q=>q
theorem bB {i:Nat}{x:Str}{e:Expr}{te:TE}{pos':Pos}(hN:X.N.Nodup)(hi:X.N[i]?=some x)(hx:Loc X.env.scope x)(he:PE X e te)(hs:swapsWith e (some (.Name x pos')) pos.line X.env=pure false:=by rfl)(hf:X.fn x=true∨X.env.scope.names.lookup x=some .local:=by first | exact .inl rfl | exact .inr rfl | assumption) :
  PS X (.Assign [.Name x pos'] e pos) (bW te (aN i)):=by
 intro pins s σ H D I h
 refine wpAny_Assign_Name (thn (he pins s σ H _ I h) fun v s1 ⟨y,H1,I1,r1,q1⟩=>?_) hs
 exact kK I1 hN hi hx r1 (fun s2 I2=>⟨_,H1,I2,q1⟩) hf
end
section
variable {X:Cx}{pos:Pos}
noncomputable def zB (c:TT) (tb:TS):TS:=fun D σ H=>∃ W:Nat→St→Hp→Prop,(∃ m,W m σ H)∧∀ m σ H,W m σ H →
 c σ H fun b H1=>if b=true then ∃ N:St→Hp→Prop,(∀ σ' H',N σ' H'→∃ m',m'<m∧W m' σ' H')∧tb { D with nx:=N,ct:=N,bk:=D.nx } σ H1 else D.nx σ H1
theorem yF {c:Expr}{body:List Stmt}{tc:TT}{tb:TS}(hp:PassesOwn (model X.prog X.w) X.A X.env X.xe)(hc:PT X c tc)(hb:PSs X body tb):PS X (.While c body [] pos) (zB tc tb):=by
 intro pins s σ H D I h
 obtain ⟨W,⟨m0,w0⟩,turn⟩:=h
 refine wpAny_While (codeAny_whileLoop (fun n s'=>∃ σ' H',Inv X pins σ' H' s'∧W n σ' H') ?_ m0 ⟨σ,H,I,w0⟩)
 rintro n s1 ⟨σ1,H1,I1,w1⟩
 refine wpAny_passesOwn hp (thn (hc pins s1 σ1 H1 _ I1 (turn n σ1 H1 w1)) fun b s2 ⟨H2,I2,q2⟩=>?_)
 cases b with
 | true=>
  obtain ⟨N,hN,q2⟩:=q2
  rw [if_pos rfl]
  refine wpAny_passesOwn hp (thn (hb pins s2 σ1 H2 _ I2 q2) fun f s3 q3=>?_)
  cases f with
  | next=>
   obtain ⟨σ3,H3,I3,n3⟩:=q3
   obtain ⟨m',hm,w3⟩:=hN σ3 H3 n3
   exact ⟨m',hm,σ3,H3,I3,w3⟩
  | cont=>
   obtain ⟨σ3,H3,I3,n3⟩:=q3
   obtain ⟨m',hm,w3⟩:=hN σ3 H3 n3
   exact ⟨m',hm,σ3,H3,I3,w3⟩
  | brk=>exact q3
  | ret v=>exact q3
 | false=>
  rw [if_neg Bool.false_ne_true]
  exact wpAny_execs_nil ⟨σ1,H2,I2,q2⟩
end
structure It where
 go:Nat→Hp→Prop
 yld:Nat→Hp→V→Hp→Prop
 stop:Nat→Hp→Prop
noncomputable def tF (X:Cx) (pins:List (Addr × Obj)) (H:Hp) (b:Addr):Prop:=
 H b=none∧b≠X.env.locals∧b∉X.fs∧(b∈X.ex∨X.s₀.heap.objs.size≤b)∧(∀ x c,X.env.cells.lookup x=some c→c≠b)∧∀ p∈X.pn++pins,p.1≠b
theorem Inv.fpOk {X:Cx}{pins:List (Addr × Obj)}{σ:St}{H H':Hp}{s:Shared}{b:Addr}(I:Inv X pins σ H s)(hb:s.heap.objs.size≤b)(hn:H' b=none):tF X pins H' b:=by
 refine ⟨hn,Nat.ne_of_gt (Nat.lt_of_lt_of_le I.lt hb),I.nofs hb, .inr (Nat.le_trans I.sz hb),fun x c e z=>?_,fun p hp z=>?_⟩
 ·obtain ⟨v,q⟩:=I.cell x c e
  exact absurd (Nat.lt_of_lt_of_le q.lt (by rw [z];exact hb)) (Nat.lt_irrefl _)
 ·exact absurd (Nat.lt_of_lt_of_le (Heap.lt_size (I.pin p hp).1) (by rw [z];exact hb)) (Nat.lt_irrefl _)
structure aAx (P:Program)(w:World)(K:PySem.W.Frag)(tg:Expr)(J:It)(fp:List Addr)(it:Addr)(tn:Nat→Heap→Prop):Prop where
 mem:it∈fp
 obj:∀ i h,tn i h→∀ b∈fp,∃ o,h.get? b=some o∧∀ v,o.data ≠ .cell v
 keep:∀ i h h',tn i h→(∀ b∈fp,∀ o,h.get? b=some o→h'.get? b=some o)→tn i h'
 item:∀ (X:Cx),X.prog=P→X.w=w→X.K=K→X.calm=true→∀ (i:Nat) (pins:List (Addr × Obj)) (s:Shared) (σ:St) (H:Hp) (E:Value→Shared→Prop),Inv X pins σ H s→(∀ b∈fp,tF X pins H b)→tn i s.heap→J.go i H →
  wpAny (model P w) X.A (pyNext (.ref it)) (fun r s1=>∃ u,r=some u ∧
   wpAny (model P w) X.A (letOwnedTupleGo tg (.ref it) u) (fun _ s2=>∃ x H',Inv X pins σ H' s2∧RelV x u∧J.yld i H x H'∧tn (i+1) s2.heap∧∀ b∈fp,H' b=none) E s1) E s
 done:∀ (X:Cx),X.prog=P→X.w=w→X.K=K→X.calm=true→∀ (i:Nat) (pins:List (Addr × Obj)) (s:Shared) (σ:St) (H:Hp) (E:Value→Shared→Prop),Inv X pins σ H s→(∀ b∈fp,tF X pins H b)→tn i s.heap→J.stop i H →
  wpAny (model P w) X.A (pyNext (.ref it)) (fun r s1=>r=none∧Inv X pins σ H s1) E s
 self:∀ (A:Around) (i:Nat) (s:Shared) (Q:Value→Shared→Prop) (E:Value→Shared→Prop),tn i s.heap→Q (.ref it) s→wpAny (model P w) A (pyIter (.ref it)) Q E s
noncomputable abbrev TI:=St→Hp→(It→Hp→Prop)→Prop
noncomputable def PIE (X:Cx) (pins:List (Addr × Obj)) (σ:St) (tg:Expr) (R:It→Hp→Prop) (itv:Value) (s2:Shared):Prop:=
 ∃ (it:Addr) (fp:List Addr) (tn:Nat→Heap→Prop) (J:It) (H':Hp),itv = .ref it∧Inv X pins σ H' s2∧aAx X.prog X.w X.K tg J fp it tn∧tn 0 s2.heap∧(∀ b∈fp,tF X pins H' b)∧R J H'
noncomputable def PI (X:Cx) (tg iter:Expr) (wi:TI):Prop:=
 ∀ (pins:List (Addr × Obj)) (s:Shared) (σ:St) (H:Hp) (R:It→Hp→Prop),Inv X pins σ H s→wi σ H R →
  wpAny (model X.prog X.w) X.A (eval iter X.env) (fun v s1=>wpAny (model X.prog X.w) X.A (pyIter v) (PIE X pins σ tg R) X.xe s1) X.xe s
theorem aAi {M : Model} {A : Around} {E : Value → Shared → Prop} {s : Shared} {tg : Expr} {it : Addr} {u : Value} {o : Obj} {n : String} {vs : Array Value} {Q : Unit → Shared → Prop} (ho : s.heap.get? it = some o) (hc : o.cls = .type n) (hd : o.data = .fields vs)
    (hn : ["enumerate", "zip", "dict_itemiterator", "dict_reverseitemiterator", "odict_iterator", "itertools.zip_longest", "itertools.pairwise"].contains n = false) (hQ : Q () s) : wpAny M A (letOwnedTupleGo tg (.ref it) u) Q E s := by
  unfold letOwnedTupleGo
  cases tg <;> first
    | exact wpAny_pure hQ
    | (cases u <;> first
        | exact wpAny_pure hQ
        | (refine wpAny_bind (wpAny_load ho ?_)
           rw [hc, hd]
           show wpAny M A (if (["enumerate", "zip", "dict_itemiterator", "dict_reverseitemiterator", "odict_iterator", "itertools.zip_longest", "itertools.pairwise"].contains n && vs[0]? == some (rawInt _)) = true then _ else _) Q E s
           rw [if_neg (by intro h; rw [hn, Bool.false_and] at h; cases h)]
           exact wpAny_pure hQ))
noncomputable def Itl (K:PySem.W.Frag) (a:Addr):It:=
 ⟨fun i H=>∃ xs x,SqL K H a xs∧xs[i]?=some x,fun i H x H'=>H'=H∧∀ xs,SqL K H a xs→xs[i]?=some x,fun i H=>∃ xs,SqL K H a xs∧xs.length≤i⟩
noncomputable def Itt (K:PySem.W.Frag) (a:Addr):It:=
 ⟨fun i H=>∃ xs x,SqT K H a xs∧xs[i]?=some x,fun i H x H'=>H'=H∧∀ xs,SqT K H a xs→xs[i]?=some x,fun i H=>∃ xs,SqT K H a xs∧xs.length≤i⟩
noncomputable def Itr (lo:Int) (n:Nat):It:=⟨fun i _=>i<n,fun i H x H'=>H'=H∧x = .int (lo+i),fun i _=>n≤i⟩
theorem vN {P:Program}{w:World}{K:PySem.W.Frag}{tg:Expr}(a it:Addr):aAx P w K tg (Itl K a) [it] it (fun i h=>h.IsListIter it a i) where
 mem:=by simp
 obj:=fun i h st b hb=>by
  have e:b=it:=by simpa using hb
  subst e
  obtain ⟨o,e,c,d⟩:=st
  exact ⟨o,e,fun v z=>by rw [d] at z;cases z⟩
 keep:=fun i h h' st k=>st.at fun o e=>k it (by simp) o e
 item:=by
  intro X hP hw hK hc i pins s σ H E I hf st hg
  subst hP hw hK
  obtain ⟨xs,x,hq,hx⟩:=hg
  obtain ⟨its,rv,p,hz⟩:=I.list hq
  obtain ⟨u,hu,ru⟩:=rv.get hx
  obtain ⟨f0,f1,f2,f3,f4,f5⟩:=hf it (by simp)
  refine wpAny_pyNext_list_item st p.isList (x:=u) (by simpa using hu) fun h' st' sb=>?_
  have I1:Inv X pins σ H { s with heap:=h' }:=I.turned (t':=s.toks) (fun b o hb e=>(sb.2 b hb).trans e) f0 f1 f3 f4 f5
  obtain ⟨o,e,c,d⟩:=id st'
  exact ⟨u,rfl,aAi (s:={ s with heap:=h' }) e c d (by decide) ⟨x,H,I1,ru,⟨rfl,fun ys hy=>by rw [I.list_inj hy hq];exact hx⟩,st',fun b hb=>(hf b hb).1⟩⟩
 done:=by
  intro X hP hw hK hc i pins s σ H E I hf st hg
  subst hP hw hK
  obtain ⟨xs,hq,hx⟩:=hg
  obtain ⟨its,rv,p,hz⟩:=I.list hq
  obtain ⟨f0,f1,f2,f3,f4,f5⟩:=hf it (by simp)
  have hl:=rv.length
  exact wpAny_pyNext_list_end (I.ok.hd hc) st p.isList (by simp;omega) fun h' eb=>⟨rfl,I.turned (t':=s.toks) (fun b o hb e=>eb b o hb e) f0 f1 f3 f4 f5⟩
 self:=fun _ _ _ _ _ st h=>wpAny_pyIter_listiter st h
theorem tD {P:Program}{w:World}{K:PySem.W.Frag}{tg:Expr}(a it:Addr):aAx P w K tg (Itt K a) [it] it (fun i h=>h.IsTupleIter it a i) where
 mem:=by simp
 obj:=fun i h st b hb=>by
  have e:b=it:=by simpa using hb
  subst e
  obtain ⟨o,e,c,d⟩:=st
  exact ⟨o,e,fun v z=>by rw [d] at z;cases z⟩
 keep:=fun i h h' st k=>st.at fun o e=>k it (by simp) o e
 item:=by
  intro X hP hw hK hc i pins s σ H E I hf st hg
  subst hP hw hK
  obtain ⟨xs,x,hq,hx⟩:=hg
  obtain ⟨its,rv,p,hz⟩:=I.tuple hq
  obtain ⟨u,hu,ru⟩:=rv.get hx
  obtain ⟨f0,f1,f2,f3,f4,f5⟩:=hf it (by simp)
  refine wpAny_pyNext_tuple_item st (show s.heap.IsTuple a its.toArray from p) (x:=u) (by simpa using hu) fun h' st' sb=>?_
  have I1:Inv X pins σ H { s with heap:=h' }:=I.turned (t':=s.toks) (fun b o hb e=>(sb.2 b hb).trans e) f0 f1 f3 f4 f5
  obtain ⟨o,e,c,d⟩:=id st'
  exact ⟨u,rfl,aAi (s:={ s with heap:=h' }) e c d (by decide) ⟨x,H,I1,ru,⟨rfl,fun ys hy=>by rw [I.tuple_inj hy hq];exact hx⟩,st',fun b hb=>(hf b hb).1⟩⟩
 done:=by
  intro X hP hw hK hc i pins s σ H E I hf st hg
  subst hP hw hK
  obtain ⟨xs,hq,hx⟩:=hg
  obtain ⟨its,rv,p,hz⟩:=I.tuple hq
  obtain ⟨f0,f1,f2,f3,f4,f5⟩:=hf it (by simp)
  have hl:=rv.length
  exact wpAny_pyNext_tuple_end (I.ok.hd hc) st (show s.heap.IsTuple a its.toArray from p) (by simp;omega) fun h' eb=>⟨rfl,I.turned (t':=s.toks) (fun b o hb e=>eb b o hb e) f0 f1 f3 f4 f5⟩
 self:=fun _ _ _ _ _ st h=>wpAny_pyIter_tupleiter st h
theorem sU {P:Program}{w:World}{K:PySem.W.Frag}{tg:Expr}(it:Addr)(lo:Int)(n:Nat):aAx P w K tg (Itr lo n) [it] it (fun i h=>IsRangeIter h it (lo+(i:Nat)*1) ((n:Int) - (i:Nat)) 1) where
 mem:=by simp
 obj:=fun i h st b hb=>by
  have e:b=it:=by simpa using hb
  subst e
  exact ⟨_,st,fun v z=>by
   have z':Data.fields _=Data.cell v:=z
   cases z'⟩
 keep:=fun i h h' st k=>k it (by simp) _ st
 item:=by
  intro X hP hw hK hc i pins s σ H E I hf st hg
  subst hP hw hK
  obtain ⟨f0,f1,f2,f3,f4,f5⟩:=hf it (by simp)
  have W:=Walks.range (prog:=X.prog) (w:=X.w) (I.ok.hd hc) it lo 1 n
  refine W.item i s _ _ hg st fun v h' tk hv st' kk=>?_
  obtain ⟨t,rfl⟩:=hv
  have I1:Inv X pins σ H { s with heap:=h',toks:=tk }:=I.turned (fun b o hb e=>kk b o (by simpa using hb) e) f0 f1 f3 f4 f5
  refine ⟨_,rfl,aAi (s:={ s with heap:=h',toks:=tk }) (n:="range_iterator") st' rfl rfl (by decide) ⟨.int (lo+i),H,I1,⟨t,?_⟩,⟨rfl,rfl⟩,st',fun b hb=>(hf b hb).1⟩⟩
  rw [Int.mul_one]
 done:=by
  intro X hP hw hK hc i pins s σ H E I hf st hg
  subst hP hw hK
  obtain ⟨f0,f1,f2,f3,f4,f5⟩:=hf it (by simp)
  exact wpAny_pyNext_range_end (I.ok.hd hc) st (by have:n≤i:=hg;omega) fun h' eb=>⟨rfl,I.turned (t':=s.toks) (fun b o hb e=>eb b o hb e) f0 f1 f3 f4 f5⟩
 self:=fun _ _ _ _ _ st h=>wpAny_pyIter_rangeiter st h
end L2
namespace L2
open PySem PySem.Spec PyProof.Rows
section
variable {X:Cx}{tg:Expr}
theorem sC {pins:List (Addr × Obj)}{σ:St}{H:Hp}{s:Shared}{R:It→Hp→Prop}{E:Value→Shared→Prop}{lo hi:Int}{t u v:Tok}{tk:Nat}(I:Inv X pins σ H s)(h1:-(2 ^ 62)≤lo)(h2:lo<2 ^ 62)(h3:-(2 ^ 62)≤hi)(h4:hi<2 ^ 62)
  (q:R (Itr lo (hi - lo).toNat) H):wpAny (model X.prog X.w) X.A (pyIter (.ref s.heap.objs.size)) (PIE X pins σ tg R) E { s with heap:=s.heap.push { cls := .type "range",data := .fields #[.int lo t, .int hi u, .int 1 v] },toks:=tk }:=by
 refine wpAny_pyIter_range (IsRange.new ..) (small_one h1 h2 h3 h4) ?_
 have I1:Inv X pins σ H { s with heap:=s.heap.push { cls := .type "range",data := .fields #[.int lo t, .int hi u, .int 1 v] },toks:=tk }:=I.kept fun b o e=>Heap.get?_push_of_some _ e
 refine ⟨(s.heap.push { cls := .type "range",data := .fields #[.int lo t, .int hi u, .int 1 v] }).objs.size,[(s.heap.push { cls := .type "range",data := .fields #[.int lo t, .int hi u, .int 1 v] }).objs.size],_,_,H,rfl,
  I1.kept (t':=tk) fun b o e=>Heap.get?_push_of_some _ e,sU _ lo (hi - lo).toNat,?_,fun b hb=>?_,q⟩
 ·have e1:lo+((0:Nat):Int)*1=lo:=by simp
  have e2:(((hi - lo).toNat:Nat):Int) - ((0:Nat):Int)=Builtin.Range.rangeSize lo hi 1:=by rw [rangeSize_one];split <;> omega
  show IsRangeIter _ _ (lo+((0:Nat):Int)*1) ((((hi - lo).toNat:Nat):Int) - ((0:Nat):Int)) 1
  rw [e1,e2]
  exact Heap.get?_push_size _ rfl
 ·have e:b=(s.heap.push { cls := .type "range",data := .fields #[.int lo t, .int hi u, .int 1 v] }).objs.size:=by simpa using hb
  subst e
  exact I1.fpOk (Nat.le_refl _) (I1.hok.fresh (Nat.le_refl _))
noncomputable def jX (ta:TA):TI:=fun σ H R=>ta σ H fun vs H1=>∃ j:Int,vs=[.int j]∧-(2 ^ 62)≤j∧j<2 ^ 62∧R (Itr 0 j.toNat) H1
noncomputable def wS (ta:TA):TI:=fun σ H R=>ta σ H fun vs H1=>∃ i j:Int,vs=[.int i, .int j]∧(-(2 ^ 62)≤i∧i<2 ^ 62∧-(2 ^ 62)≤j∧j<2 ^ 62)∧R (Itr i (j - i).toNat) H1
theorem cM {a:Expr}{ta:TA}{p pos:Pos}(hg:Gl X "range")(hm:X.mg "range" = none)(ha:PA X [a] ta)(hs:starEach [a] X.env=[(false,eval a X.env)]:=by rfl):PI X tg (.Call (.Name "range" p) [a] [] pos) (jX ta):=by
 intro pins s σ H R I h
 refine Call_ (pE I hg hm boot_range (PyProof.Rows.callWith_type1 (thn (ha pos pins s σ H _ I h) fun us s1 ⟨vs,H1,I1,r1,q1⟩=>?_) hs rfl))
 obtain ⟨j,e,q1,q2,q⟩:=q1
 subst e
 cases r1 with
 | cons r rr=>
  cases rr
  obtain ⟨t,rfl⟩:=r
  exact call_range_1 (sC I1 (by omega) (by omega) q1 q2 (by simpa using q))
theorem kO {a b:Expr}{ta:TA}{p pos:Pos}(hg:Gl X "range")(hm:X.mg "range" = none)(ha:PA X [a,b] ta)(hs:starEach [a,b] X.env=[(false,eval a X.env),(false,eval b X.env)]:=by rfl)(hs2:starEach [b] X.env=[(false,eval b X.env)]:=by rfl) :
  PI X tg (.Call (.Name "range" p) [a,b] [] pos) (wS ta):=by
 intro pins s σ H R I h
 refine Call_ (pE I hg hm boot_range (PyProof.Rows.callWith_type1 (thn (ha pos pins s σ H _ I h) fun us s1 ⟨vs,H1,I1,r1,q1⟩=>?_) (by rw [hs,hs2]) (by rw [hs2];rfl)))
 obtain ⟨i,j,e,⟨q1,q2,q3,q4⟩,q⟩:=q1
 subst e
 cases r1 with
 | cons r rr=>
  cases rr with
  | cons r' rr=>
   cases rr
   obtain ⟨t,rfl⟩:=r
   obtain ⟨t',rfl⟩:=r'
   exact call_range_2 (sC I1 q1 q2 q3 q4 q)
noncomputable def qN (wi:TI) (g:TG) (tb:TS):TS:=fun D σ H=>wi σ H fun J H1=>∃ W:Nat→Nat→St→Hp→Prop,(∃ m,W 0 m σ H1)∧∀ i m σ H,W i m σ H →
 (J.stop i H∧D.nx σ H)∨(J.go i H∧∃ N:St→Hp→Prop,(∀ σ' H',N σ' H'→∃ m',m'<m∧W (i+1) m' σ' H')∧∀ x H',J.yld i H x H'→g x σ H' fun σ2 H2=>tb { D with nx:=N,ct:=N,bk:=D.nx } σ2 H2)
noncomputable def pQ (fp:List Addr) (h:Heap):List (Addr × Obj):=fp.filterMap fun b=>(h.get? b).map fun o=>(b,o)
theorem gI {fp:List Addr}{h:Heap}{b:Addr}{o:Obj}(hb:b∈fp)(e:h.get? b=some o):(b,o)∈pQ fp h:=List.mem_filterMap.mpr ⟨b,hb,by rw [e];rfl⟩
theorem tW {fp:List Addr}{h:Heap}{p:Addr × Obj}(hp:p∈pQ fp h):p.1∈fp∧h.get? p.1=some p.2:=by
 obtain ⟨b,hb,e⟩:=List.mem_filterMap.mp hp
 cases q:h.get? b with
 | none=>rw [q] at e;cases e
 | some o=>
  rw [q] at e
  have e':(b,o)=p:=Option.some.inj e
  subst e'
  exact ⟨hb,q⟩
theorem Inv.pinned {pins:List (Addr × Obj)}{σ:St}{H:Hp}{s:Shared}{fp:List Addr}(I:Inv X pins σ H s)(hf:∀ b∈fp,tF X pins H b)(ho:∀ b∈fp,∃ o,s.heap.get? b=some o∧∀ v,o.data ≠ .cell v):Inv X (pins++pQ fp s.heap) σ H s:=
 I.pins_of fun p hp=>(List.mem_append.mp hp).elim (fun z=>I.pin p (List.mem_append_right _ z)) fun z=>by
  obtain ⟨hb,e⟩:=tW z
  obtain ⟨f0,f1,f2,_⟩:=hf p.1 hb
  obtain ⟨o,e',d⟩:=ho p.1 hb
  rw [e] at e';cases e'
  exact ⟨e,f0,f1,f2,d⟩
theorem Inv.unpinned {pins pl:List (Addr × Obj)}{σ:St}{H:Hp}{s:Shared}(I:Inv X (pins++pl) σ H s):Inv X pins σ H s:=I.pins_of fun p hp=>I.pin p (List.mem_append_right _ (List.mem_append_left _ hp))
theorem gB {iter:Expr}{body:List Stmt}{wi:TI}{g:TG}{tb:TS}{pos:Pos}(hp:PassesOwn (model X.prog X.w) X.A X.env X.xe)(hc:X.calm=true)(hi:PI X tg iter wi)(hg:PG X tg g)(hb:PSs X body tb)
  (hs:∀ x,foldedSetIterable iter X.env x=pure x:=by intro _;rfl):PS X (.For tg iter body [] pos) (qN wi g tb):=by
 intro pins s σ H D I h
 refine wpAny_For (thn (hi pins s σ H _ I h) fun v s1 h1=>thn h1 fun itv s2 h2=>?_) hs
 obtain ⟨it,fp,tn,J,H2,e,I2,T,st2,f2,W,⟨m0,w0⟩,turn⟩:=h2
 subst e
 have stat:∀ {H':Hp},(∀ b∈fp,H' b=none)→∀ b∈fp,tF X pins H' b:=fun hn b hb=>⟨hn b hb,(f2 b hb).2⟩
 refine codeAny_forLoop_any (fun n s'=>∃ i σ' H',Inv X pins σ' H' s'∧tn i s'.heap∧(∀ b∈fp,H' b=none)∧W i n σ' H') ?_ m0 ⟨0,σ,H2,I2,st2,fun b hb=>(f2 b hb).1,w0⟩
 rintro n s3 ⟨i,σ3,H3,I3,st3,fr3,w3⟩
 rcases turn i n σ3 H3 w3 with ⟨stop,qn⟩ | ⟨go,N,hN,step⟩
 ·refine wpAny_passesOwn hp (thn (T.done X rfl rfl rfl hc i pins s3 σ3 H3 X.xe I3 (stat fr3) st3 stop) fun r s4 ⟨hr,I4⟩=>?_)
  subst hr
  exact wpAny_execs_nil ⟨σ3,H3,I4,qn⟩
 ·refine wpAny_passesOwn hp (thn (T.item X rfl rfl rfl hc i pins s3 σ3 H3 X.xe I3 (stat fr3) st3 go) fun r s4 ⟨u,hr,h4⟩=>?_)
  subst hr
  refine wpAny_passesOwn hp (thn h4 fun _ s5 ⟨x,H5,I5,r5,y5,st5,fr5⟩=>?_)
  have I5':=I5.pinned (stat fr5) (T.obj _ _ st5)
  refine wpAny_passesOwn hp (thn (hg _ s5 σ3 H5 x u _ I5' r5 (step x H5 y5)) fun _ s6 ⟨σ6,H6,I6,q6⟩=>?_)
  refine wpAny_passesOwn hp (thn (hb _ s6 σ6 H6 _ I6 q6) fun f s7 q7=>?_)
  have again:∀ {σ7:St} {H7:Hp},Inv X (pins++pQ fp s5.heap) σ7 H7 s7→N σ7 H7→∃ m,m<n∧∃ i σ' H',Inv X pins σ' H' s7∧tn i s7.heap∧(∀ b∈fp,H' b=none)∧W i m σ' H':=fun {σ7 H7} I7 n7=>by
   obtain ⟨m',hm,w7⟩:=hN σ7 H7 n7
   refine ⟨m',hm,i+1,σ7,H7,I7.unpinned,T.keep _ _ _ st5 fun b hb o e=>(I7.pin (b,o) (List.mem_append_right _ (List.mem_append_right _ (gI hb e)))).1,fun b hb=>?_,w7⟩
   obtain ⟨o,e,d⟩:=T.obj _ _ st5 b hb
   exact (I7.pin (b,o) (List.mem_append_right _ (List.mem_append_right _ (gI hb e)))).2.1
  cases f with
  | next=>obtain ⟨σ7,H7,I7,n7⟩:=q7;exact again I7 n7
  | cont=>obtain ⟨σ7,H7,I7,n7⟩:=q7;exact again I7 n7
  | brk=>obtain ⟨σ7,H7,I7,q7⟩:=q7;exact ⟨σ7,H7,I7.unpinned,q7⟩
  | ret v=>obtain ⟨x7,σ7,H7,I7,r7,q7⟩:=q7;exact ⟨x7,σ7,H7,I7.unpinned,r7,q7⟩
end
theorem iE {K:PySem.W.Frag}{a:Addr}{xs:List V}{g:TG}{tb:TS}{D:lO}{σ:St}{H:Hp}(Pv:Nat→St→Hp→Prop)(h0:Pv 0 σ H)(hl:∀ i σ H,i≤xs.length→Pv i σ H→SqL K H a xs)
  (hs:∀ i x σ H,xs[i]?=some x→Pv i σ H→g x σ H fun σ2 H2=>tb { D with nx:=Pv (i+1),ct:=Pv (i+1),bk:=D.nx } σ2 H2) (hd:∀ σ H,Pv xs.length σ H→D.nx σ H) :
  ∃ W:Nat→Nat→St→Hp→Prop,(∃ m,W 0 m σ H)∧∀ i m σ H,W i m σ H →
   ((Itl K a).stop i H∧D.nx σ H)∨((Itl K a).go i H∧∃ N:St→Hp→Prop,(∀ σ' H',N σ' H'→∃ m',m'<m∧W (i+1) m' σ' H')∧∀ x H',(Itl K a).yld i H x H'→g x σ H' fun σ2 H2=>tb { D with nx:=N,ct:=N,bk:=D.nx } σ2 H2):=by
 refine ⟨fun i m σ H=>m=xs.length - i∧i≤xs.length∧Pv i σ H,⟨xs.length,by simp,Nat.zero_le _,h0⟩,?_⟩
 rintro i m σ H ⟨rfl,hi,p⟩
 have q:=hl i σ H hi p
 by_cases hlt:i<xs.length
 ·refine .inr ⟨⟨xs,xs[i],q,by simp [hlt]⟩,Pv (i+1),fun σ' H' p'=>⟨xs.length - (i+1),by omega,rfl,hlt,p'⟩,fun x H' y=>?_⟩
  obtain ⟨e,y⟩:=y
  subst e
  exact hs i x σ _ (y xs q) p
 ·have e:i=xs.length:=by omega
  subst e
  exact .inl ⟨⟨xs,q,Nat.le_refl _⟩,hd σ H p⟩
theorem cG {lo:Int}{n:Nat}{g:TG}{tb:TS}{D:lO}{σ:St}{H:Hp}(Pv:Nat→St→Hp→Prop)(h0:Pv 0 σ H)
  (hs:∀ i σ H,i<n→Pv i σ H→g (.int (lo+i)) σ H fun σ2 H2=>tb { D with nx:=Pv (i+1),ct:=Pv (i+1),bk:=D.nx } σ2 H2) (hd:∀ σ H,Pv n σ H→D.nx σ H) :
  ∃ W:Nat→Nat→St→Hp→Prop,(∃ m,W 0 m σ H)∧∀ i m σ H,W i m σ H →
   ((Itr lo n).stop i H∧D.nx σ H)∨((Itr lo n).go i H∧∃ N:St→Hp→Prop,(∀ σ' H',N σ' H'→∃ m',m'<m∧W (i+1) m' σ' H')∧∀ x H',(Itr lo n).yld i H x H'→g x σ H' fun σ2 H2=>tb { D with nx:=N,ct:=N,bk:=D.nx } σ2 H2):=by
 refine ⟨fun i m σ H=>m=n - i∧i≤n∧Pv i σ H,⟨n,by simp,Nat.zero_le _,h0⟩,?_⟩
 rintro i m σ H ⟨rfl,hi,p⟩
 by_cases hlt:i<n
 ·refine .inr ⟨hlt,Pv (i+1),fun σ' H' p'=>⟨n - (i+1),by omega,rfl,hlt,p'⟩,fun x H' y=>?_⟩
  obtain ⟨e,y⟩:=y
  subst e y
  exact hs i σ _ hlt p
 ·have e:i=n:=by omega
  subst e
  exact .inl ⟨Nat.le_refl _,hd σ H p⟩
end L2
namespace L2
open PySem PySem.Spec PyProof.Rows
noncomputable abbrev R2:=V→V→Hp→VK→Prop
noncomputable def OpR (X:Cx) (f:Value→Value→Sem Value) (r:R2):Prop:=
 ∀ (pins:List (Addr × Obj)) (s:Shared) (σ:St) (H:Hp) (x y:V) (v u:Value) (Q:VK),Inv X pins σ H s→RelV x v→RelV y u→r x y H Q →
  wpAny (model X.prog X.w) X.A (f v u) (EP X pins σ Q) X.xe s
noncomputable def CallR (X:Cx) (f:Value) (r:List V→Hp→VK→Prop):Prop:=
 ∀ (pins:List (Addr × Obj)) (s:Shared) (σ:St) (H:Hp) (xs:List V) (us:List Value) (Q:VK),Inv X pins σ H s→Vals xs us→r xs H Q →
  wpAny (model X.prog X.w) X.A (call f us) (EP X pins σ Q) X.xe s
noncomputable def aDe (X:Cx) (r:V→Hp→(Bool→Hp→Prop)→Prop):Prop:=
 ∀ (pins:List (Addr × Obj)) (s:Shared) (σ:St) (H:Hp) (x:V) (v:Value) (Q:Bool→Hp→Prop),Inv X pins σ H s→RelV x v→r x H Q →
  wpAny (model X.prog X.w) X.A (truthy v) (TP X pins σ Q) X.xe s
noncomputable def tOp (r:R2) (ta tb:TE):TE:=fun σ H Q=>ta σ H fun x H1=>tb σ H1 fun y H2=>r x y H2 Q
noncomputable def rI (C:Int→Int→Prop) (g:Int→Int→V):R2:=fun x y H Q=>∃ i j,x = .int i∧y = .int j∧C i j∧Q (g i j) H
inductive aCI (g:Int→Int→V) (x y:V) (H:Hp) (Q:VK):Prop
 | mk (i j:Int) (hx:x = .int i) (hy:y = .int j) (q:Q (g i j) H):aCI g x y H Q
noncomputable def rI0 (g:Int→Int→V):R2:=fun x y H Q=>aCI g x y H Q
section
variable {X:Cx}{a b c:Expr}{ta tb tc:TE}{pos:Pos}
theorem aBZ (ha:PE X a ta)(hb:PE X b tb){pins:List (Addr × Obj)}{s:Shared}{σ:St}{H:Hp}{R:V→V→Hp→Prop}(I:Inv X pins σ H s)
  (h:ta σ H fun x H1=>tb σ H1 fun y H2=>R x y H2) {Q:Value→Shared→Prop} {f:Value→Value→Sem Value}
  (hf:∀ v u s2 x y H2,Inv X pins σ H2 s2→RelV x v→RelV y u→R x y H2→wpAny (model X.prog X.w) X.A (f v u) Q X.xe s2) :
  wpAny (model X.prog X.w) X.A (eval a X.env) (fun v s₁=>wpAny (model X.prog X.w) X.A (eval b X.env) (fun u s₂=>wpAny (model X.prog X.w) X.A (f v u) Q X.xe s₂) X.xe s₁) X.xe s:=by
 refine thn (ha pins s σ H _ I h) fun v s1 ⟨x,H1,I1,r1,q1⟩=>?_
 refine thn (hb pins s1 σ H1 _ I1 q1) fun u s2 ⟨y,H2,I2,r2,q2⟩=>?_
 exact hf v u s2 x y H2 I2 r1 r2 q2
theorem bA {op:Operator}{r:R2}(ho:OpR X (binaryOp op) r)(ha:PE X a ta)(hb:PE X b tb):PE X (.BinOp a op b pos) (tOp r ta tb):=by
 intro pins s σ H Q I h
 exact wpAny_BinOp (aBZ ha hb I h fun v u s2 x y H2 I2 rx ry q=>ho pins s2 σ H2 x y v u Q I2 rx ry q)
theorem opI {f:Value→Value→Sem Value}{C:Int→Int→Prop}{g:Int→Int→Int}
  (rule:∀ (i j:Int) (t u:Tok) (s:Shared) (Q:Value→Shared→Prop) (E:Value→Shared→Prop),C i j→Q (.int (g i j) s.toks) { s with toks:=s.toks+1 }→wpAny (model X.prog X.w) X.A (f (.int i t) (.int j u)) Q E s) :
  OpR X f (rI C fun i j => .int (g i j)):=by
 intro pins s σ H x y v u Q I rx ry h
 obtain ⟨i,j,rfl,rfl,hc,q⟩:=h
 obtain ⟨t,rfl⟩:=rx
 obtain ⟨t',rfl⟩:=ry
 exact rule i j t t' s _ _ hc ⟨.int (g i j),H,I.tok _,⟨_,rfl⟩,q⟩
theorem aCM {f:Value→Value→Sem Value}{g:Int→Int→Int}
  (rule:∀ (i j:Int) (t u:Tok) (s:Shared) (Q:Value→Shared→Prop) (E:Value→Shared→Prop),Q (.int (g i j) s.toks) { s with toks:=s.toks+1 }→wpAny (model X.prog X.w) X.A (f (.int i t) (.int j u)) Q E s) :
  OpR X f (rI0 fun i j => .int (g i j)):=by
 intro pins s σ H x y v u Q I rx ry h
 obtain ⟨i,j,rfl,rfl,q⟩:=h
 obtain ⟨t,rfl⟩:=rx
 obtain ⟨t',rfl⟩:=ry
 exact rule i j t t' s _ _ ⟨.int (g i j),H,I.tok _,⟨_,rfl⟩,q⟩
theorem aBJ {f:Value→Value→Sem Value}{g:Int→Int→Bool}
  (rule:∀ (i j:Int) (t u:Tok) (s:Shared) (Q:Value→Shared→Prop) (E:Value→Shared→Prop),Q (.bool (g i j)) s→wpAny (model X.prog X.w) X.A (f (.int i t) (.int j u)) Q E s) :
  OpR X f (rI0 fun i j => .bl (g i j)):=by
 intro pins s σ H x y v u Q I rx ry h
 obtain ⟨i,j,rfl,rfl,q⟩:=h
 obtain ⟨t,rfl⟩:=rx
 obtain ⟨t',rfl⟩:=ry
 exact rule i j t t' s _ _ ⟨.bl (g i j),H,I,rfl,q⟩
noncomputable def aCK (i j:Int):Prop:=0≤j∧j≤1000000∧i.natAbs<2 ^ 64
noncomputable def CMul (i j:Int):Prop:=(-(2 ^ 64)<i∧i<2 ^ 64)∨(-(2 ^ 64)<j∧j<2 ^ 64)
theorem CMul.ok {i j:Int}(h:CMul i j):IntMulOk i j:=by
 rcases h with ⟨h1,h2⟩ | ⟨h1,h2⟩
 ·exact .of_left (intBits_le_64 h1 h2)
 ·exact .of_right (intBits_le_64 h1 h2)
theorem aBx:OpR X (binaryOp .Add) (rI0 fun i j => .int (i+j)):=aCM fun _ _ _ _ _ _ _ q=>add_int q
theorem lB:OpR X (binaryOp .Sub) (rI0 fun i j => .int (i - j)):=aCM fun _ _ _ _ _ _ _ q=>sub_int q
theorem aBq:OpR X (binaryOp .Mult) (rI CMul fun i j => .int (i*j)):=opI fun _ _ _ _ _ _ _ hc q=>mul_int q hc.ok
theorem iN:OpR X (binaryOp .Mod) (rI (fun _ j=>0<j) fun i j => .int (i % j)):=opI fun i j _ _ _ _ _ hc q=>by
 have h1:(0:Int)<j:=hc
 exact mod_int' (by omega) (by rw [Int.fmod_eq_emod_of_nonneg i (by omega)];exact q)
theorem uM:OpR X (binaryOp .Pow) (rI aCK fun i j => .int (i ^ j.toNat)):=opI fun _ _ _ _ _ _ _ hc q=>pow_int_small hc.1 hc.2.1 hc.2.2 q
end
section
variable {X:Cx}{a b c:Expr}{ta tb tc:TE}{pos:Pos}
theorem yY {pins:List (Addr × Obj)}{σ:St}{H:Hp}{s:Shared}{Q:VK}{k k':Bool}(I:Inv X pins σ H s)(q:Q (.bl k) H)(e:k=k'):EP X pins σ Q (.bool k') s:=by
 subst e
 exact ⟨.bl k,H,I,rfl,q⟩
theorem wJ:OpR X (compareOp .Lt) (rI0 fun i j => .bl (decide (i<j))):=aBJ fun _ _ _ _ _ _ _ q=>lt_int q
theorem aCr:OpR X (compareOp .LtE) (rI0 fun i j => .bl (decide (i≤j))):=aBJ fun _ _ _ _ _ _ _ q=>le_int q
theorem zQ:OpR X (compareOp .Gt) (rI0 fun i j => .bl (decide (j<i))):=aBJ fun _ _ _ _ _ _ _ q=>gt_int q
theorem aCC:OpR X (compareOp .GtE) (rI0 fun i j => .bl (decide (j≤i))):=aBJ fun _ _ _ _ _ _ _ q=>ge_int q
theorem aBw:OpR X (compareOp .Is) (fun x y H Q=>y = .non∧Q (.bl (decide (x = .non))) H):=by
 intro pins s σ H x y v u Q I rx ry h
 obtain ⟨rfl,q⟩:=h
 cases ry
 refine is_none_gen (yY I q ?_)
 cases x <;> first
  | (cases rx;rfl)
  | (obtain ⟨t,rfl⟩:=rx;rfl)
theorem OpR.or {f:Value→Value→Sem Value}{r r':R2}(h:OpR X f r)(h':OpR X f r'):OpR X f (fun x y H Q=>r x y H Q∨r' x y H Q):=by
 intro pins s σ H x y v u Q I rx ry q
 rcases q with q | q
 ·exact h pins s σ H x y v u Q I rx ry q
 ·exact h' pins s σ H x y v u Q I rx ry q
theorem cC (b:Expr){op:CmpOp}(h:op ≠ .In:=by decide)(h2:op ≠ .NotIn:=by decide):behindInMarks op b=false:=by
 have e1:(op == CmpOp.In)=false:=by cases op <;> first | rfl | exact absurd rfl h
 have e2:(op == CmpOp.NotIn)=false:=by cases op <;> first | rfl | exact absurd rfl h2
 cases b <;> simp [behindInMarks,e1,e2]
theorem iY {op:CmpOp}{r:R2}(ho:OpR X (compareOp op) r)(ha:PE X a ta)(hb:PE X b tb)(hm:behindInMarks op b=false):PE X (.Compare a [op] [b] pos) (tOp r ta tb):=by
 intro pins s σ H Q I h
 exact wpAny_Compare1 (aBZ ha hb I h fun v u s2 x y H2 I2 rx ry q=>ho pins s2 σ H2 x y v u Q I2 rx ry q) hm
inductive TBP (x:V) (H:Hp) (Q:Bool→Hp→Prop):Prop
 | mk (k:Bool) (e:x = .bl k) (q:Q k H):TBP x H Q
noncomputable def cB (t:TE):TT:=fun σ H Q=>t σ H fun x H'=>TBP x H' Q
theorem bX {op:CmpOp}{r:R2}(ho:OpR X (compareOp op) r)(ha:PE X a ta)(hb:PE X b tb)(hm:behindInMarks op b=false):PT X (.Compare a [op] [b] pos) (cB (tOp r ta tb)):=by
 intro pins s σ H Q I h
 refine wpAny_isTrue_Compare1 (thn (ha pins s σ H _ I h) fun v s1 ⟨x,H1,I1,r1,q1⟩=>thn (hb pins s1 σ H1 _ I1 q1) fun u s2 ⟨y,H2,I2,r2,q2⟩=>
  thn (ho pins s2 σ H2 x y v u _ I2 r1 r2 q2) fun c s3 ⟨z,H3,I3,r3,k,e,q3⟩=>?_) hm
 subst e
 cases r3
 exact wpAny_truthy_bool ⟨H3,I3,q3⟩
noncomputable def aCp (K:PySem.W.Frag) (x:V) (H:Hp) (k:Bool):Prop:=
 match x with
 | .non=>k=false
 | .bl b=>k=b
 | .int i=>k=(i != 0)
 | .str y=>y.length≤sizeLine∧k=((y.length:Int) != 0)
 | .byt y=>y.size≤sizeLine∧k=((y.size:Int) != 0)
 | .ref p=>(∃ xs,SqL K H p xs∧k = !xs.isEmpty)∨(∃ xs,SqT K H p xs∧k = !xs.isEmpty)∨∃ kvs,H p=some (.dK kvs)∧k = !kvs.isEmpty
 | _=>False
theorem sS {κ:Type}{kvs:List (κ × V)}{vs:List (κ × Value)}(r:KV kvs vs):(!vs.isEmpty) = !kvs.isEmpty:=by
 cases r <;> rfl
theorem mT {xs:List V}{its:List Value}(r:Vals xs its):(!its.toArray.isEmpty) = !xs.isEmpty:=by
 cases r <;> simp
theorem oS:(sizeLine:Nat)<2 ^ 63:=by rw [sizeLine_eq];decide
theorem aAE:aDe X (fun x H Q=>∃ k,aCp X.K x H k∧Q k H):=by
 intro pins s σ H x v Q I rx h
 obtain ⟨k,e,q⟩:=h
 have hl:=oS
 have hs:sizeLine=16777216:=sizeLine_eq
 cases x with
 | non=>
  cases rx
  have e':k=false:=e
  subst e'
  exact truthy_none ⟨H,I,q⟩
 | bl b=>
  cases rx
  have e':k=b:=e
  subst e'
  exact wpAny_truthy_bool ⟨H,I,q⟩
 | int i=>
  obtain ⟨t,rfl⟩:=rx
  have e':k=(i != 0):=e
  subst e'
  exact PySem.P.truthy_int ⟨H,I,q⟩
 | str y=>
  obtain ⟨t,rfl⟩:=rx
  obtain ⟨hy,e'⟩:y.length≤sizeLine∧k=((y.length:Int) != 0):=e
  subst e'
  exact PySem.P.truthy_str (by omega) ⟨H,I.tok _,q⟩
 | byt y=>
  obtain ⟨t,rfl⟩:=rx
  obtain ⟨hy,e'⟩:y.size≤sizeLine∧k=((y.size:Int) != 0):=e
  subst e'
  exact PySem.W.truthy_bytes (by omega) ⟨H,I.tok _,q⟩
 | ref p=>
  cases rx
  have e':(∃ xs,SqL X.K H p xs∧k = !xs.isEmpty)∨(∃ xs,SqT X.K H p xs∧k = !xs.isEmpty)∨∃ kvs,H p=some (.dK kvs)∧k = !kvs.isEmpty:=e
  rcases e' with ⟨xs,hx,e'⟩ | ⟨xs,hx,e'⟩ | ⟨kvs,hx,e'⟩
  ·subst e'
   obtain ⟨its,r,pl,hz⟩:=I.list hx
   have hlen:=r.length
   exact wpAny_truthy_list pl.isList (by simp only [List.size_toArray];omega) ⟨H,I.tok _,by rw [mT r];exact q⟩
  ·subst e'
   obtain ⟨its,r,pl,hz⟩:=I.tuple hx
   have hlen:=r.length
   exact truthy_tuple pl (by simp only [List.size_toArray];omega) ⟨H,I.tok _,by rw [mT r];exact q⟩
  ·subst e'
   obtain ⟨hz,hS,vs,r,m⟩:kvs.length≤sizeLine∧(p == sysModules)=false∧∃ vs,KV kvs vs∧s.heap.DictOf (rH X.prog X.w) p vs:=I.hok p _ hx
   have hlen:kvs.length=vs.length:=Paired.length r
   exact wpAny_truthy_dict hS m (by omega) ⟨H,I.tok _,by rw [sS r];exact q⟩
 | _=>exact (show False from e).elim
theorem wZ (ha:PE X a ta)(he:∀ whole,isTrue a X.env whole=(do let v ← whole;standAt a.pos;holding [v] (truthy v))) :
  PT X a (fun σ H Q=>ta σ H fun x H'=>∃ k,aCp X.K x H' k∧Q k H'):=by
 intro pins s σ H Q I h
 exact isTrue_plain (thn (ha pins s σ H _ I h) fun v s1 ⟨x,H1,I1,r1,q1⟩=>aAE pins s1 σ H1 x v Q I1 r1 q1) (he _)
theorem sY:OpR X (binaryOp .Add) (fun x y H Q=>∃ i j,x = .str i∧y = .str j∧i.length+j.length≤sizeLine∧Q (.str (i++j)) H):=by
 intro pins s σ H x y v u Q I rx ry h
 obtain ⟨i,j,rfl,rfl,hz,q⟩:=h
 obtain ⟨t,rfl⟩:=rx
 obtain ⟨t',rfl⟩:=ry
 exact add_str (fun t' tk=>⟨.str (i++j),H,I.tok _,⟨_,rfl⟩,q⟩) hz
theorem pG {x:V}{us:List Value}(r:Vals [x] us):∃ u,us=[u]∧RelV x u:=by
 cases r with
 | cons r1 r2=>cases r2;exact ⟨_,rfl,r1⟩
theorem aAd {x y:V}{us:List Value}(r:Vals [x,y] us):∃ u w',us=[u,w']∧RelV x u∧RelV y w':=by
 cases r with
 | cons r1 r2=>
  cases r2 with
  | cons r3 r4=>cases r4;exact ⟨_,_,rfl,r1,r3⟩
theorem xS:CallR X (.builtin "abs") (fun xs H Q=>∃ i,xs=[.int i]∧Q (.int (if i<0 then -i else i)) H):=by
 intro pins s σ H xs us Q I r h
 obtain ⟨i,rfl,q⟩:=h
 obtain ⟨u,rfl,t,rfl⟩:=pG r
 exact call_abs_int fun u tk=>⟨.int (if i<0 then -i else i),H,I.tok _,⟨_,rfl⟩,q⟩
theorem uH (hc:X.calm=true):CallR X (.builtin "min") (fun xs H Q=>∃ i j,xs=[.int i, .int j]∧Q (.int (if j<i then j else i)) H):=by
 intro pins s σ H xs us Q I r h
 obtain ⟨i,j,rfl,q⟩:=h
 obtain ⟨u,w',rfl,⟨t,rfl⟩,⟨t',rfl⟩⟩:=aAd r
 refine min_two_ints (I.ok.hd hc) fun h' tk k=>⟨_,H,I.kept k,?_,q⟩
 by_cases hj:j<i
 ·rw [if_pos hj,if_pos hj];exact ⟨_,rfl⟩
 ·rw [if_neg hj,if_neg hj];exact ⟨_,rfl⟩
theorem uW:CallR X (.type "int") (fun xs H Q=>(∃ i,xs=[.int i]∧Q (.int i) H)∨∃ k,xs=[.bl k]∧Q (.int (if k then 1 else 0)) H):=by
 intro pins s σ H xs us Q I r h
 rcases h with ⟨i,rfl,q⟩ | ⟨k,rfl,q⟩
 ·obtain ⟨u,rfl,t,rfl⟩:=pG r
  exact call_int_int ⟨.int i,H,I,⟨_,rfl⟩,q⟩
 ·obtain ⟨u,rfl,r1⟩:=pG r
  cases r1
  exact call_int_bool ⟨.int (if k then 1 else 0),H,I.tok _,⟨_,rfl⟩,q⟩
end
end L2
namespace L2
open PySem PySem.Spec PyProof.Rows
section
variable {prog:Program}{w:World}{A:Around}{E:Value→Shared→Prop}{s:Shared}{K:PySem.W.Frag}{x dx C f:Addr}{mA:Str→Option Value}{name:Str}{v:Value}
end
section
variable {P:Program}{w:World}{H H':Hp}{h h':Heap}{a C dx:Addr}{fs fs':List (Str × V)}
end
section
variable {X:Cx}{pins:List (Addr × Obj)}{σ:St}{H:Hp}{s:Shared}{a C dx:Addr}{fs:List (Str × V)}{f:Str}{v:V}{A:Around}{E:Value→Shared→Prop}
end
section
variable {X:Cx}{o e value:Expr}{f:Str}{pos pos' tpos:Pos}{ta tv:TE}
end
section
variable {X:Cx}{pins:List (Addr × Obj)}{σ:St}{H:Hp}{s:Shared}{A:Around}{E:Value→Shared→Prop}{Q:Value→Shared→Prop}{c:Value}{b:Bool}
end
end L2
namespace L2
open PySem PySem.Spec PyProof.Rows
structure Room (k:Nat)(A:Around):Prop where
 hd:A.handled=none
 dp:A.depth+3*k+5<recursionLimit
 un:A.units+16*k+200<cLine
 gd:A.guards=some []
theorem Room.mono {j k:Nat}{A:Around}(r:Room k A)(h:j≤k):Room j A:=⟨r.hd,by have:=r.dp;omega,by have:=r.un;omega,r.gd⟩
theorem Room.deeper {k:Nat}{A:Around}(r:Room (k+1) A)(env:Env):Room k (A.deeper env):=
 ⟨r.hd,by have:=r.dp;show A.depth+1+3*k+5<_;omega,by have:=r.un;show A.units+3+16*k+200<_;omega,r.gd⟩
theorem Room.depth {k:Nat}{A:Around}(r:Room k A):A.depth<recursionLimit:=by have:=r.dp;omega
noncomputable def aS:TA:=fun _ H Q=>Q [] H
noncomputable def aC (ta:TE) (tr:TA):TA:=fun σ H Q=>ta σ H fun x H1=>tr σ H1 fun xs H2=>Q (x :: xs) H2
section
variable {X:Cx}{e:Expr}{es:List Expr}{te:TE}{t:TA}{pos:Pos}
theorem aE:PA X [] aS:=fun _ _ _ _ H Q I h=>Calls.spliced_nil ⟨[],H,I, .nil,h⟩
theorem dG (ha:PE X e te)(hr:PA X es t)(hs:starEach (e :: es) X.env=(false,eval e X.env) :: starEach es X.env:=by rfl):PA X (e :: es) (aC te t):=by
 intro pos pins s σ H Q I h
 rw [hs]
 show wpAny _ _ (spliced ((false,eval e X.env) :: backTo pos (starEach es X.env))) _ _ s
 refine Calls.spliced_cons (thn (ha pins s σ H _ I h) fun u s1 ⟨x,H1,I1,r1,q1⟩=>?_)
 exact thn (hr pos pins s1 σ H1 _ I1 q1) fun us s2 ⟨xs,H2,I2,r2,q2⟩=>⟨x :: xs,H2,I2, .cons r1 r2,q2⟩
noncomputable def qF (t:TA):TE:=fun σ H Q=>t σ H fun xs H1=>xs.length≤sizeLine∧∀ p,H1 p=none→Q (.ref p) (upd H1 p (.tup xs))
noncomputable def nW (t:TA):TE:=fun σ H Q=>t σ H fun xs H1=>xs.length≤sizeLine∧∀ p,H1 p=none→Q (.ref p) (upd H1 p (.lst xs))
theorem gX {x1}(h:PA X es t):PE X (.Tuple es x1 pos) (qF t):=by
 intro pins s σ H Q I hq
 refine wpAny_Tuple_spliced (thn (h pos pins s σ H _ I hq) fun us s1 ⟨xs,H1,I1,r,z,q⟩=>⟨by rw [← r.length];exact z,?_⟩)
 have hf:H1 s1.heap.objs.size=none:=I1.hok.fresh (Nat.le_refl _)
 refine ⟨.ref s1.heap.objs.size,upd H1 s1.heap.objs.size (.tup xs),I1.laid (t':=s1.toks) (fun b u e=>Heap.get?_push_of_some _ e) (Nat.le_refl _) ?_,rfl,q _ hf⟩
 exact ⟨z,us,r,TupN.new _ _⟩
theorem dZ (h:PA X es t):PE X (.List es pos) (nW t):=by
 intro pins s σ H Q I hq
 refine wpAny_List_spliced (thn (h pos pins s σ H _ I hq) fun us s1 ⟨xs,H1,I1,r,z,q⟩=>⟨by rw [← r.length];exact z,?_⟩)
 have hf:H1 s1.heap.objs.size=none:=I1.hok.fresh (Nat.le_refl _)
 refine ⟨.ref s1.heap.objs.size,upd H1 s1.heap.objs.size (.lst xs),I1.laid (t':=s1.toks) (fun b u e=>Heap.get?_push_of_some _ e) (Nat.le_refl _) ?_,rfl,q _ hf⟩
 exact ⟨z,us,0,r,Heap.get?_push_size _ rfl⟩
end
noncomputable abbrev Sp:=List V→Hp→VK→XK→Prop
noncomputable abbrev CXT:=List Env→Hp→Shared→XK→Value→Shared→Prop
structure aBS (P:Program)(w:World)(K:PySem.W.Frag)(mg:Str→Option Value)(base:Heap)(A:Around)(outer:List Env)(s:Shared)(H:Hp):Prop where
 frames:A.frames=some outer
 mod:Mod K mg base
 bs:∀ b o,base.get? b=some o→s.heap.get? b=some o∧H b=none
 bsz:base.objs.size≤s.heap.objs.size
 funs:s.heap.FunFrames base outer
 frf:∀ b∈frs outer,H b=none
 hok:HOk P w H s.heap
 bare:AllBare s.gens
noncomputable def CE (outer:List Env) (P:Program) (w:World) (H:Hp) (s:Shared) (Q:VK) (u:Value) (s':Shared):Prop:=
 ∃ v H',s'.os=s.os∧AllBare s'.gens∧Un (frs outer) [] H H' s.heap s'.heap∧HOk P w H' s'.heap∧RelV v u∧Q v H'
noncomputable def CR (CX:CXT) (outer:List Env) (P:Program) (w:World) (H:Hp) (s:Shared) (Q:VK) (E:XK) (r:Result) (s':Shared):Prop:=
 match r with
 | .ok (.ret u)=>CE outer P w H s Q u s'
 | .ok _=>False
 | .error e=>CX outer H s E e s'
structure FnOk (P:Program)(w:World)(K:PySem.W.Frag)(mg:Str→Option Value)(base:Heap)(CX:CXT)(k:Nat)(f:Addr)(fd:FuncData)(ps:List Str)(sp:Sp):Prop where
 len:∀ vs H Q E,sp vs H Q E→vs.length=ps.length
 run:∀ (A:Around) (outer:List Env) (s:Shared) (H:Hp) (args:Args) (us:List Value) (vs:List V) (Q:VK) (E:XK),Room k A→aBS P w K mg base A outer s H→BindsTo s fd args (ps.zip us)→Vals vs us→sp vs H Q E →
  codeAny (model P w) A (.call (.ref f) args) (CR CX outer P w H s Q E) s
theorem FnOk.mono {P:Program}{w:World}{K:PySem.W.Frag}{mg:Str→Option Value}{base:Heap}{CX:CXT}{j k:Nat}{f:Addr}{fd:FuncData}{ps:List Str}{sp:Sp}(F:FnOk P w K mg base CX j f fd ps sp)(h:j≤k) :
  FnOk P w K mg base CX k f fd ps sp:=⟨F.len,fun A outer s H args us vs Q E hr=>F.run A outer s H args us vs Q E (hr.mono h)⟩
section
variable {X:Cx}{pins:List (Addr × Obj)}{σ:St}{H:Hp}{s s':Shared}
theorem Inv.env0 (I:Inv X pins σ H s):aBS X.prog X.w X.K X.mg X.base X.A X.stack s H:=
 ⟨I.ok.frames,I.ok.mod,I.bs,Nat.le_trans I.ok.bsz I.sz,I.stack,I.stkFree,I.hok,I.bare⟩
theorem Inv.after {Q:VK}{u:Value}(I:Inv X pins σ H s)(h:CE X.stack X.prog X.w H s Q u s'):EP X pins σ Q u s':=by
 obtain ⟨v,H',os,bare,un,hok,r,q⟩:=h
 obtain ⟨hh,g,d,t,os'⟩:=s'
 obtain rfl:os'=s.os:=os
 exact ⟨v,H',I.call (h':=hh) (g':=g) (d':=d) (t':=t) (ch:=[]) un hok bare (fun b z=>absurd z (by simp)),r,q⟩
end
noncomputable def cA (sp:Sp) (dvs:List V) (E:XK) (t:TA):TE:=fun σ H Q=>t σ H fun vs H1=>sp (vs++dvs) H1 Q E
noncomputable def Binds (K:PySem.W.Frag) (fd:FuncData) (ps:List Str) (ds:List Value):Prop:=
 ∀ (s:Shared) (us:List Value),K.In s.heap→(us++ds).length=ps.length→BindsTo s fd ⟨us,[]⟩ (ps.zip (us++ds))
theorem Binds.all {K:PySem.W.Frag}{fd:FuncData}{ps:List Str}(h:∀ us:List Value,us.length=ps.length→bindArgs fd ⟨us,[]⟩=pure (ps.zip us)):Binds K fd ps []:=fun s us _ hl=>by
 rw [List.append_nil] at hl ⊢
 exact .of_eq (h us hl)
noncomputable def iR (CX:CXT) (X:Cx) (E:XK):Prop:=∀ (pins:List (Addr × Obj)) (σ:St) (H:Hp) (s:Shared) (e:Value) (s':Shared),Inv X pins σ H s→CX X.stack H s E e s'→X.xe e s'
section
variable {X:Cx}{CX:CXT}{k:Nat}{f C:Addr}{fd:FuncData}{ps:List Str}{sp:Sp}{dvs:List V}{ds:List Value}{E:XK}{x m:Str}{p pos apos:Pos}{e o:Expr}{es:List Expr}{ta:TE}{t:TA}
theorem yW {pins:List (Addr × Obj)}{σ:St}{H:Hp}{s:Shared}{Q:VK}{us:List Value}{vs:List V}(F:FnOk X.prog X.w X.K X.mg X.base CX k f fd ps sp)(hr:Room k X.A)(hb:Binds X.K fd ps ds)(hd:Vals dvs ds)(hx:iR CX X E)
  (I:Inv X pins σ H s) (r:Vals vs us) (h:sp (vs++dvs) H Q E):wpAny (model X.prog X.w) X.A (call (.ref f) us) (EP X pins σ Q) X.xe s:=by
 have r2:Vals (vs++dvs) (us++ds):=r.append hd
 have hl:(us++ds).length=ps.length:=by rw [← r2.length];exact F.len _ _ _ _ h
 refine wpAny_call (codeAny_mono (F.run X.A X.stack s H ⟨us,[]⟩ (us++ds) (vs++dvs) Q E hr I.env0 (hb s us I.kIn hl) r2 h) fun r s' hq=>?_)
 cases r with
 | error e=>exact hx pins σ H s e s' I hq
 | ok fl=>
  cases fl with
  | ret u=>exact I.after hq
  | next=>exact False.elim hq
  | brk=>exact False.elim hq
  | cont=>exact False.elim hq
theorem tX (F:FnOk X.prog X.w X.K X.mg X.base CX k f fd ps sp)(hr:Room k X.A)(hg:Gl X x)(hm:X.mg x=some (.ref f))(hk:PySem.W.keepIn X.K (.ref f)=true)(hb:Binds X.K fd ps ds)(hd:Vals dvs ds)(hx:iR CX X E)
  (ha:PA X (e :: es) t) (hdb:(x == ("__debug__" : Str))=false:=by decide) (he:starEach (e :: es) X.env=(false,eval e X.env) :: starEach es X.env:=by rfl) (hpl:(backTo pos (starEach es X.env)).any (·.1)=false:=by rfl) :
  PE X (.Call (.Name x p) (e :: es) [] pos) (cA sp dvs E t):=by
 intro pins s σ H Q I h
 refine wpAny_Call_Name_kw (nM I hg hm ?_ hdb)
 refine PySem.W.callWith_K (h₀:=X.base) I.ok.mod.kin hk (thn (ha pos pins s σ H _ I h) fun us s1 ⟨vs,H1,I1,r,q⟩=>⟨I1.kIn,?_⟩) he hpl
 exact yW F hr hb hd hx I1 r q
end
section
variable {X:Cx}{CX:CXT}{k:Nat}{f C:Addr}{fd:FuncData}{ps ks:List Str}{sp:Sp}{E:XK}{x m:Str}{p pos apos kpos:Pos}{e o:Expr}{es:List Expr}{kws:List Keyword}{te ta:TE}{t tk:TA}{nm:Option Str}
variable {g:List Value→List Value→List Value}{gV:List V→List V→List V}
end
structure bP (N P:List Str)(sc:Scope):Prop where
 kind:sc.kind = .function
 co:sc.isCoroutine=false
 gen:sc.isGenerator=false
 nd:N.Nodup
 pre:N.take P.length=P
 par:∀ x∈P,sc.names.lookup x=some .local∨sc.names.lookup x=some .cell
 nofree:∀ y∈sc.names,y.2 ≠ .free
theorem pJ {kindOf:Str→Option NameKind}{x:Str}:∀ {binds:List (Str × Value)} {m:Str→Option Value},(∀ v,(x,v)∉binds)→bindL kindOf binds m x=m x
 | [],_,_=>rfl
 | (n,v) :: r,m,h=>by
  unfold bindL
  rw [pJ fun w hw=>h w (List.mem_cons_of_mem _ hw)]
  split
  ·have:x≠n:=by rintro rfl;exact h v List.mem_cons_self
   simp [this]
  ·rfl
theorem pL {kindOf:Str→Option NameKind}{x:Str}:∀ {binds:List (Str × Value)} {m:Str→Option Value},(∀ v,(x,v)∉binds)→bindC kindOf binds m x=m x
 | [],_,_=>rfl
 | (n,v) :: r,m,h=>by
  unfold bindC
  rw [pL fun w hw=>h w (List.mem_cons_of_mem _ hw)]
  split
  ·rfl
  ·have:x≠n:=by rintro rfl;exact h v List.mem_cons_self
   simp [this]
theorem pH {kindOf:Str→Option NameKind}{x:Str}{v:Value}:∀ {P:List Str} {vs:List Value} {i:Nat} {m:Str→Option Value},P.Nodup→P[i]?=some x→vs[i]?=some v→kindOf x=some .local →
  bindL kindOf (P.zip vs) m x=some v
 | [],_,_,_,_,h,_,_=>by simp at h
 | _ :: _,[],_,_,_,_,h,_=>by simp at h
 | p :: P,w :: vs,0,m,nd,h1,h2,hk=>by
  simp at h1 h2;subst h1;subst h2
  show bindL kindOf ((p,w) :: P.zip vs) m p=_
  unfold bindL
  rw [pJ fun v hv=>(List.nodup_cons.mp nd).1 (List.of_mem_zip hv).1,if_pos hk]
  simp
 | p :: P,w :: vs,i+1,m,nd,h1,h2,hk=>by
  show bindL kindOf ((p,w) :: P.zip vs) m x=_
  unfold bindL
  exact pH (i:=i) (List.nodup_cons.mp nd).2 (by simpa using h1) (by simpa using h2) hk
theorem pW {kindOf:Str→Option NameKind}{x:Str}{v:Value}:∀ {P:List Str} {vs:List Value} {i:Nat} {m:Str→Option Value},P.Nodup→P[i]?=some x→vs[i]?=some v→kindOf x≠some .local →
  bindC kindOf (P.zip vs) m x=some v
 | [],_,_,_,_,h,_,_=>by simp at h
 | _ :: _,[],_,_,_,_,h,_=>by simp at h
 | p :: P,w :: vs,0,m,nd,h1,h2,hk=>by
  simp at h1 h2;subst h1;subst h2
  show bindC kindOf ((p,w) :: P.zip vs) m p=_
  unfold bindC
  rw [pL fun v hv=>(List.nodup_cons.mp nd).1 (List.of_mem_zip hv).1,if_neg hk]
  simp
 | p :: P,w :: vs,i+1,m,nd,h1,h2,hk=>by
  show bindC kindOf ((p,w) :: P.zip vs) m x=_
  unfold bindC
  exact pW (i:=i) (List.nodup_cons.mp nd).2 (by simpa using h1) (by simpa using h2) hk
noncomputable def bQ (N:List Str) (vs:List V):St:=vs.map some++List.replicate (N.length - vs.length) none
noncomputable def rN (CX:CXT) (P:Program) (w:World) (K:PySem.W.Frag) (mg:Str→Option Value) (base:Heap) (N:List Str) (qual:Str) (scope:Scope) (f:Addr) (cd:Value) (A:Around) (outer:List Env) (s:Shared) (H:Hp) (E:XK):Cx where
 prog:=P
 w:=w
 K:=K
 mg:=mg
 base:=base
 A:=A.deeper (envOfC qual scope s.heap.objs.size f cd)
 N:=N
 s₀:=s
 H₀:=H
 env:=envOfC qual scope s.heap.objs.size f cd
 outer:=outer
 stack:=envOfC qual scope s.heap.objs.size f cd :: outer
 ex:=[]
 calm:=true
 fn:=fun _=>true
 pn:=[]
 xe:=fun e s'=>wpAny (model P w) (A.deeper (envOfC qual scope s.heap.objs.size f cd)) (leaving (envOfC qual scope s.heap.objs.size f cd) e) (fun _ s''=>CX outer H s E e s'') (fun e' s''=>CX outer H s E e' s'') s'
theorem sI {sc:Scope}{n:Nat}{x:Str}(h:sc.names.lookup x=some .cell):∃ c,(cellsFrom n sc.names []).lookup x=some c:=by
 have q:=PySem.W.cellsFrom_some sc.names n [] (.inl h)
 exact Option.isSome_iff_exists.mp q
theorem vP {CX:CXT}{P:Program}{w:World}{K:PySem.W.Frag}{mg:Str→Option Value}{base:Heap}{N ps:List Str}{qual:Str}{scope:Scope}{f:Addr}{cd:Value}{A:Around}{outer:List Env}{s s1:Shared}{H:Hp}{E:XK}{us:List Value}{vs:List V}
  (S:bP N ps scope) (hd:A.handled=none) (e0:aBS P w K mg base A outer s H) (hl:vs.length=ps.length) (r:Vals vs us)
  (x:InCallC s s.heap.objs.size (bindL (envOfC qual scope s.heap.objs.size f cd).kindOf (ps.zip us) fun _=>none) (cellsFrom (s.heap.objs.size+1) scope.names []) (bindC (envOfC qual scope s.heap.objs.size f cd).kindOf (ps.zip us) fun _=>none) s1) :
  Inv (rN CX P w K mg base N qual scope f cd A outer s H E) [] (bQ N vs) H s1:=by
 have hpl:ps.length≤N.length:=by have:=congrArg List.length S.pre;rw [List.length_take] at this;omega
 obtain ⟨h1,tk,rfl,hk⟩:=x.done
 have noA:∀ b:Addr,b∉(rN CX P w K mg base N qual scope f cd A outer s H E).ex:=fun b z=>absurd (show b∈([]:List Addr) from z) (by simp)
 refine ⟨⟨e0.mod,S.kind,rfl,rfl,Nat.le_refl _,fun y z c h1 h2=>?_,fun y hy=>?_,fun y c _ h=>?_,fun _=>hd,Around.frames_deeper e0.frames, .inr ⟨rfl,rfl⟩,fun b z=>absurd z (noA b),e0.bs,e0.bsz,fun b _ _=>noA b,fun b z=>absurd z (noA b),e0.funs,e0.frf⟩,
  rfl,e0.bare,Un.kept hk,⟨_,x.toInCall.ns,fun i y v h1 h2 h3=>?_⟩,fun y c h=>⟨_,x.cell y c h⟩,e0.hok.fresh (Nat.le_refl _),fun y c h=>?_,fun p hp=>absurd (show p∈([]:List (Addr × Obj)) from hp) (by simp),e0.hok.kept hk,?_⟩
 ·exact name_of_addr x.apart (PySem.mem_of_lookup h1) (PySem.mem_of_lookup h2)
 ·have hy:scope.names.lookup y=some .cell∨scope.names.lookup y=some .free:=hy
  rcases hy with hy | hy
  ·exact sI hy
  ·exact absurd rfl (S.nofree _ (PySem.mem_of_lookup hy))
 ·exact Nat.le_of_lt (x.above y c (PySem.mem_of_lookup h))
 ·have hi:i<vs.length:=by
   unfold bQ at h2
   by_cases hi:i<vs.length
   ·exact hi
   ·rw [List.getElem?_append_right (by simpa using hi)] at h2
    rw [List.getElem?_replicate] at h2
    split at h2 <;> cases h2
  have ha:vs[i]?=some v:=by
   unfold bQ at h2
   rw [List.getElem?_append_left (by simpa using hi),List.getElem?_map] at h2
   cases e:vs[i]? with
   | none=>rw [e] at h2;cases h2
   | some a=>rw [e] at h2;cases h2;rfl
  obtain ⟨u,hu,rv⟩:=r.get ha
  have hp:ps[i]?=some y:=by
   rw [← S.pre,List.getElem?_take_of_lt (by omega)];exact h1
  have ndP:ps.Nodup:=by rw [← S.pre];exact S.nd.sublist (List.take_sublist _ _)
  refine ⟨u,rv,?_⟩
  rcases S.par y (List.mem_of_getElem? hp) with k | k
  ·exact .inl ⟨k,pH ndP hp hu k⟩
  ·obtain ⟨c,e⟩:=sI (n:=s.heap.objs.size+1) k
   refine .inr ⟨.inl k,c,e,?_⟩
   have q:=x.cell y c e
   rw [pW ndP hp hu (by show scope.names.lookup y≠_;rw [k];decide)] at q
   exact q
 ·exact e0.hok.fresh (Nat.le_of_lt (x.above y c (PySem.mem_of_lookup h)))
 ·unfold bQ
  show _=N.length
  rw [List.length_append,List.length_map,List.length_replicate]
  omega
theorem aAY {CX:CXT}{P:Program}{w:World}{K:PySem.W.Frag}{mg:Str→Option Value}{base:Heap}{k:Nat}{f:Addr}{name qual:Str}{params:Arguments}{body:List Stmt}{scope:Scope}{dV kV doc pm cdv ct oc:Value}{an od:Option Addr}
  {osl:Array (Option Value)} {N ps:List Str} {sp:Sp} (lk:K.lookup f=some ⟨oc,od, .func (PySem.W.fnOf name qual params body scope dV kV doc pm an cdv ct),osl⟩) (hcd:PySem.W.codeIn K cdv qual=true) (S:bP N ps scope)
  (len:∀ vs H Q E,sp vs H Q E→vs.length=ps.length)
  (hbody:∀ (A:Around) (outer:List Env) (s:Shared) (H:Hp) (vs:List V) (Q:VK) (E:XK),Room k (A.deeper (envOfC qual scope s.heap.objs.size f cdv))→sp vs H Q E →
   ∃ t,PSs (rN CX P w K mg base N qual scope f cdv A outer s H E) body t∧t { nx:=fun _ H'=>Q .non H',rt:=Q } (bQ N vs) H) :
  FnOk P w K mg base CX (k+1) f (PySem.W.fnOf name qual params body scope dV kV doc pm an cdv ct) ps sp:=by
 refine ⟨len,fun A outer s H args us vs Q E hr e0 hb r hsp=>?_⟩
 have hl:=len _ _ _ _ hsp
 have KX:K.In s.heap:=e0.mod.kin.keeps fun b o e=>(e0.bs b o e).1
 have lim:s.heap.NoLimit:=e0.mod.nolimit.keeps fun b o e=>(e0.bs b o e).1
 have hkind:∀ y∈ps.zip us,scope.names.lookup y.1=some .local∨(scope.names.lookup y.1=some .cell∧((cellsFrom (s.heap.objs.size+1) scope.names []).lookup y.1).isSome=true):=fun ⟨n,v⟩ hy=>by
  rcases S.par n (List.of_mem_zip hy).1 with q | q
  ·exact .inl q
  ·exact .inr ⟨q,PySem.W.cellsFrom_some _ _ _ (.inl q)⟩
 refine codeAny_call_function hr.depth (KX _ _ lk) rfl S.co S.gen rfl (PySem.W.codeRec_of KX hcd) (hb _ _ _ _ ?_)
 refine wpAny_newFunctionEnv_cells S.kind hkind fun env he s1 x=>?_
 subst he
 refine ⟨lim.keeps x.toInCall.keep,codeAny_func ?_⟩
 obtain ⟨t,ht,hq⟩:=hbody A outer s H vs Q E (hr.deeper _) hsp
 have I:Inv (rN CX P w K mg base N qual scope f cdv A outer s H E) [] (bQ N vs) H s1:=vP S hr.hd e0 hl r x
 refine wpAny_mono (ht [] s1 (bQ N vs) H _ I hq) (fun fl s' hs=>?_) fun e s' hs=>hs
 have fin:∀ {σ':St} {H':Hp} {v:V} {u:Value},Inv (rN CX P w K mg base N qual scope f cdv A outer s H E) [] σ' H' s'→RelV v u→Q v H'→CE outer P w H s Q u s':=
  fun {σ' H' v u} J rv q=>⟨v,H',J.os,J.bare,J.base,J.hok,rv,q⟩
 cases fl with
 | ret u=>
  obtain ⟨v,σ',H',J,rv,q⟩:=hs
  exact fin J rv q
 | next=>
  obtain ⟨σ',H',J,q⟩:=hs
  exact fin (v:=V.non) (u:=Value.none) J rfl q
 | brk=>
  obtain ⟨_,_,_,q⟩:=hs
  exact False.elim q
 | cont=>
  obtain ⟨_,_,_,q⟩:=hs
  exact False.elim q
end L2
namespace L2
open PySem PySem.Spec PyProof.Rows
section
variable {X:Cx}{x:Str}{p pos:Pos}{e:Expr}{es:List Expr}{t:TA}{id T:String}{r:List V→Hp→VK→Prop}
noncomputable def tCB (r:List V→Hp→VK→Prop) (t:TA):TE:=fun σ H Q=>t σ H fun vs H1=>r vs H1 Q
theorem aM (hc:CallR X (.builtin id) r)(hg:Gl X x)(hm:X.mg x=none)(hv:bootBuiltins x=some (.builtin id))(ha:PA X (e :: es) t)(hn:x≠"__name__":=by decide)(hdb:(x == ("__debug__" : Str))=false:=by decide)
  (he:starEach (e :: es) X.env=(false,eval e X.env) :: starEach es X.env:=by rfl) (hpl:(backTo pos (starEach es X.env)).any (·.1)=false:=by rfl):PE X (.Call (.Name x p) (e :: es) [] pos) (tCB r t):=by
 intro pins s σ H Q I h
 refine wpAny_Call_Name_kw (pE I hg hm hv ?_ hn hdb)
 exact PyProof.Rows.callWith_builtin1 (thn (ha pos pins s σ H _ I h) fun us s1 ⟨vs,H1,I1,r1,q1⟩=>hc pins s1 σ H1 vs us Q I1 r1 q1) he hpl
theorem bZ (hc:CallR X (.type T) r)(hg:Gl X x)(hm:X.mg x=none)(hv:bootBuiltins x=some (.type T))(ha:PA X (e :: es) t)(hn:x≠"__name__":=by decide)(hdb:(x == ("__debug__" : Str))=false:=by decide)
  (he:starEach (e :: es) X.env=(false,eval e X.env) :: starEach es X.env:=by rfl) (hpl:(backTo pos (starEach es X.env)).any (·.1)=false:=by rfl):PE X (.Call (.Name x p) (e :: es) [] pos) (tCB r t):=by
 intro pins s σ H Q I h
 refine wpAny_Call_Name_kw (pE I hg hm hv ?_ hn hdb)
 exact PyProof.Rows.callWith_type1 (thn (ha pos pins s σ H _ I h) fun us s1 ⟨vs,H1,I1,r1,q1⟩=>hc pins s1 σ H1 vs us Q I1 r1 q1) he hpl
end
end L2
namespace HT
open PySem PyProof.Rows
section
open PySem.SeqAt
open PySem.AutoSeq1 (wpAny_loadPart')
open PySem.MeetsSeq PySem.MeetsSeq2 PySem.MeetsSeq3
end
section
variable {prog:Program}{w:World}{A:Around}{E:Value→Shared→Prop}{s:Shared}
theorem cat_tup {t b:Addr}{vs ws:List Value}{Q:Value→Shared→Prop}(ht:IsTup s.heap t vs.toArray)(hb:IsTup s.heap b ws.toArray)(hv:vs≠[])
  (h1:ws=[]→Q (.ref t) s) (h2:ws≠[]→Q (.ref s.heap.objs.size) { s with heap:=s.heap.push { cls := .type "tuple",data := .seq (vs++ws).toArray } })
  (hsz:vs.length+ws.length≤sizeLine):wpAny (model prog w) A (binaryOp .Add (.ref t) (.ref b)) Q E s:=by
 obtain ⟨⟨cls,dd,data,sl⟩,ho,hc,n,hd⟩:=id ht
 obtain ⟨⟨cls2,dd2,data2,sl2⟩,ho2,hc2,n2,hd2⟩:=id hb
 simp only at hc hd hc2 hd2
 subst hc hd hc2 hd2
 have e:vs.toArray++ws.toArray=(vs++ws).toArray:=by simp
 by_cases hw:ws=[]
 ·exact concat_meets ⟨_,ho,rfl⟩ ⟨_,ho2,rfl⟩ noFill_tuple_add seq_tuple_add PySem.F.slot_tuple_add PySem.F.entry_tuple_add (PySem.F.args_tuple_add_2 _ _)
   (tuple_addW1 t b vs.toArray ws.toArray n n2 dd dd2 sl sl2 (by simpa using hv) (by simp [hw])) ⟨ho,ho2,h1 hw⟩
 ·refine concat_meets ⟨_,ho,rfl⟩ ⟨_,ho2,rfl⟩ noFill_tuple_add seq_tuple_add PySem.F.slot_tuple_add PySem.F.entry_tuple_add (PySem.F.args_tuple_add_2 _ _)
   (tuple_addW2 t b vs.toArray ws.toArray n n2 dd dd2 sl sl2 (by simpa using hv) (by simpa using hw) (by rw [List.size_toArray,List.size_toArray];exact hsz)) ⟨ho,ho2,?_⟩
  rw [e]
  exact h2 hw
noncomputable def sIx (n d:Nat):Option Int→Nat
 | none=>d
 | some v=>if v<0 then (v+(n:Int)).toNat else min v.toNat n
theorem aAT (n d:Nat)(hd:d≤n)(o:Option Int):sIx n d o≤n:=by
 cases o with
 | none=>exact hd
 | some v=>
  show (if v<0 then (v+(n:Int)).toNat else min v.toNat n)≤n
  by_cases hv:v<0
  ·rw [if_pos hv];omega
  ·rw [if_neg hv];exact Nat.min_le_right _ _
theorem vM (v:Int)(n d:Nat):(if v<0 then max (v+(n:Int)) 0 else min v (n:Int))=((sIx n d (some v):Nat):Int):=by
 show (if v<0 then max (v+(n:Int)) 0 else min v (n:Int))=(((if v<0 then (v+(n:Int)).toNat else min v.toNat n):Nat):Int)
 by_cases hv:v<0
 ·simp only [if_pos hv];omega
 ·simp only [if_neg hv];omega
theorem sW (lo hi:Option Int)(n:Nat):Builtin.Slice.sliceAdjust lo hi 1 (n:Int)=(((sIx n 0 lo:Nat):Int),((sIx n n hi:Nat):Int)):=by
 have h1:¬ ((1:Int)<0):=by omega
 unfold Builtin.Slice.sliceAdjust
 simp only [h1,if_false]
 refine Prod.ext ?_ ?_
 ·cases lo with
  | none=>rfl
  | some v=>exact vM v n 0
 ·cases hi with
  | none=>rfl
  | some v=>exact vM v n n
theorem sR (i j:Nat):Builtin.Slice.slicePlaces (i:Int) (j:Int) 1=j - i:=by
 unfold Builtin.Slice.slicePlaces
 have h1:(1:Int) > 0:=by omega
 simp only [h1,if_true,Int.ediv_one]
 split <;> omega
theorem mJ {v:Value}{o:Option Int}{Q:Option Int→Shared→Prop}(p:IsPart v o)(h:Q o s):wpAny (model prog w) A (Builtin.Slice.slicePartIndex v) Q E s:=by
 cases p with
 | none=>exact slicePart_none h
 | int i t=>exact slicePart_int h
theorem sliceApplied_gen {sl:Addr}{vl vu:Value}{lo hi:Option Int}{n:Nat}{Q:Int × Int × Nat→Shared→Prop}(hs:s.heap.IsSliceOf sl vl vu .none)(pl:IsPart vl lo)(pu:IsPart vu hi)
  (h:Q (((sIx n 0 lo:Nat):Int),1,sIx n n hi - sIx n 0 lo) s):wpAny (model prog w) A (Builtin.Slice.sliceApplied (.ref sl) (pure (n:Int))) Q E s:=by
 obtain ⟨os,hos,hcs,hds⟩:=id hs
 unfold Builtin.Slice.sliceApplied Builtin.Slice.sliceFields
 refine wpAny_bind (wpAny_bind (wpAny_field hos hds (x:=vl) rfl (wpAny_bind (wpAny_field hos hds (x:=vu) rfl (wpAny_bind (wpAny_field hos hds (x := .none) rfl (wpAny_pure ?_)))))))
 refine wpAny_bind (slicePart_none ?_)
 show wpAny _ _ (if ((1:Int) == 0)=true then _ else _) _ _ s
 rw [if_neg (by decide)]
 refine wpAny_bind (mJ pl (wpAny_bind (mJ pu (wpAny_bind (wpAny_pure ?_)))))
 show wpAny _ _ (match Builtin.Slice.sliceAdjust lo hi 1 (n:Int) with | (lo,hi)=>pure (lo,(1:Int),Builtin.Slice.slicePlaces lo hi 1)) _ _ s
 rw [sW lo hi n]
 show wpAny _ _ (pure (((sIx n 0 lo:Nat):Int),(1:Int),Builtin.Slice.slicePlaces ((sIx n 0 lo:Nat):Int) ((sIx n n hi:Nat):Int) 1)) _ _ s
 rw [sR]
 exact wpAny_pure h
theorem xX (xs:Array Value)(i k:Nat):((List.range k).filterMap fun (m:Nat)=>xs[((i:Int)+(m:Int)*1).toNat]?).toArray=((xs.toList.drop i).take k).toArray:=by
 have e:(fun (m:Nat)=>xs[((i:Int)+(m:Int)*1).toNat]?)=fun m=>xs[i+m]?:=by
  funext m
  have:((i:Int)+(m:Int)*1).toNat=i+m:=by omega
  rw [this]
 rw [e]
 have:=pick_run xs i k
 rw [List.filterMap_map] at this
 have e2:((fun x=>xs[x]?)∘fun x=>i+x)=fun m=>xs[i+m]?:=rfl
 rw [e2] at this
 rw [this]
theorem getItem_tuple_cut {t sl:Addr}{items:Array Value}{vl vu:Value}{lo hi:Option Int}{Q:Value→Shared→Prop}(ht:IsTup s.heap t items)(hs:s.heap.IsSliceOf sl vl vu .none)(pl:IsPart vl lo)(pu:IsPart vu hi)
  (hw:¬ (sIx items.size 0 lo=0∧sIx items.size items.size hi=items.size))
  (h:Q (.ref s.heap.objs.size) { s with heap:=s.heap.push { cls := .type "tuple",data := .seq ((items.toList.drop (sIx items.size 0 lo)).take (sIx items.size items.size hi - sIx items.size 0 lo)).toArray } })
  (hsz:items.size≤sizeLine):wpAny (model prog w) A (getItem (.ref t) (.ref sl)) Q E s:=by
 have htake:sizeOk (.seq ((items.toList.drop (sIx items.size 0 lo)).take (sIx items.size items.size hi - sIx items.size 0 lo)).toArray):=by
  show ((items.toList.drop (sIx items.size 0 lo)).take (sIx items.size items.size hi - sIx items.size 0 lo)).toArray.size≤sizeLine
  rw [List.size_toArray,List.length_take,List.length_drop,Array.length_toList]
  omega
 have hj:sIx items.size items.size hi≤items.size:=aAT _ _ (Nat.le_refl _) hi
 obtain ⟨os,hos,hcs,hds⟩:=id hs
 have hTs:s.TypeIs (.ref sl) "slice":=⟨os,hos,hcs⟩
 unfold getItem
 try with_reducible refine wpAny_holding ?_
 first | refine wpAny_bind (wpAny_pure ?_) | skip
 refine wpAny_bind (wpAny_sequenceKey ht.typeIs (by decide) ?_)
 refine wpAny_bind (wpAny_callSpecial?_slot (name:=Str.ofString "__getitem__") ht.typeIs PyProof.Rows.slot_tuple_getitem
  (wpAny_call_entry PyProof.Rows.slot_tuple_getitem ht.typeIs entry_tuple_getitem ?_ (args_tuple_getitem _ _)))
 show wpAny _ _ (Builtin.Tuple.tupleItemsOf (.ref t) >>= _) _ _ s
 refine wpAny_bind (tupleItemsOf_ ht ?_)
 refine wpAny_bind (wpAny_typeOf hTs ?_)
 rw [if_pos (by decide)]
 refine wpAny_bind (sliceApplied_gen hs pl pu ?_)
 have hno:¬ ((((sIx items.size 0 lo:Nat):Int) == 0 && (1:Int) == 1 && (sIx items.size items.size hi - sIx items.size 0 lo) == items.size)=true):=by
  intro q
  rw [Bool.and_eq_true,Bool.and_eq_true] at q
  have q1:((sIx items.size 0 lo:Nat):Int)=0:=eq_of_beq q.1.1
  have q2:sIx items.size items.size hi - sIx items.size 0 lo=items.size:=eq_of_beq q.2
  exact hw ⟨by omega,by omega⟩
 show wpAny _ _ (if (((sIx items.size 0 lo:Nat):Int) == 0 && (1:Int) == 1 && (sIx items.size items.size hi - sIx items.size 0 lo) == items.size)=true then _ else _) _ _ s
 rw [if_neg hno,xX]
 first
  | exact wpAny_bind (m:=Builtin.Tuple.tupleExact _) (wpAny_newObj_type (wpAny_pure ⟨_,rfl,wpAny_pure h⟩) htake)
  | exact wpAny_bind (m:=Builtin.Tuple.tupleExact _) (wpAny_newObj_type (wpAny_bind (wpAny_pure (wpAny_pure ⟨_,rfl,wpAny_pure h⟩))) htake)
  | exact wpAny_bind (wpAny_bind (m:=Builtin.Tuple.tupleExact _) (wpAny_newObj_type (wpAny_pure (wpAny_pure ⟨_,rfl,wpAny_pure h⟩)) htake))
  | exact wpAny_bind (wpAny_bind (m:=Builtin.Tuple.tupleExact _) (wpAny_newObj_type (wpAny_pure ⟨_,rfl,wpAny_pure h⟩) htake))
end
end HT
namespace L2
open PySem PySem.Spec PyProof.Rows
noncomputable abbrev TO:=St→Hp→(Option Int→Hp→Prop)→Prop
noncomputable def PO (X:Cx) (e:Option Expr) (t:TO):Prop:=
 ∀ (pins:List (Addr × Obj)) (s:Shared) (σ:St) (H:Hp) (Q:Option Int→Hp→Prop),Inv X pins σ H s→t σ H Q →
  wpAny (model X.prog X.w) X.A (evalPart e X.env) (fun u s'=>∃ o H',Inv X pins σ H' s'∧IsPart u o∧Q o H') X.xe s
noncomputable def cI:TO:=fun _ H Q=>Q none H
noncomputable def dF (t:TE):TO:=fun σ H Q=>t σ H fun x H1=>∃ i,x = .int i∧Q (some i) H1
theorem eN {ns:List Int}:∀ {us:List Value},Vals (ns.map V.int) us→IntsAre us ns:=by
 induction ns with
 | nil=>intro us r;rw [List.map_nil] at r;cases r;exact .nil
 | cons n ns ih=>
  intro us r
  rw [List.map_cons] at r
  cases r with
  | cons r1 r2=>
   obtain ⟨t,e⟩:=r1
   subst e
   exact .cons n t (ih r2)
section
variable {X:Cx}{e:Expr}{te:TE}{lo hi:Option Expr}{tl th:TO}{pos p2:Pos}
theorem fS:PO X none cI:=by
 intro pins s σ H Q I h
 rw [evalPart_none]
 exact wpAny_pure ⟨none,H,I, .none,h⟩
theorem dE (h:PE X e te):PO X (some e) (dF te):=by
 intro pins s σ H Q I hw
 rw [evalPart_some]
 refine thn (h pins s σ H _ I hw) fun u s1 ⟨x,H1,I1,r1,q1⟩=>?_
 obtain ⟨i,rfl,q⟩:=q1
 obtain ⟨t,rfl⟩:=r1
 exact ⟨some i,H1,I1, .int i t,q⟩
noncomputable def SlR (X:Cx) (r:V→Option Int→Option Int→Hp→VK→Prop):Prop:=
 ∀ (pins:List (Addr × Obj)) (s:Shared) (σ:St) (H:Hp) (x:V) (v vl vu:Value) (lo hi:Option Int) (sl:Addr) (Q:VK),Inv X pins σ H s→RelV x v→s.heap.IsSliceOf sl vl vu .none→IsPart vl lo→IsPart vu hi→r x lo hi H Q →
  ∃ T id,typeLookup (.type T) "__getitem__" = pure (some (.builtin id))∧s.TypeIs v T∧wpAny (model X.prog X.w) X.A (getItem v (.ref sl)) (EP X pins σ Q) X.xe s
theorem SlR.or {r r':V→Option Int→Option Int→Hp→VK→Prop}(h:SlR X r)(h':SlR X r'):SlR X (fun x lo hi H Q=>r x lo hi H Q∨r' x lo hi H Q):=by
 intro pins s σ H x v vl vu lo hi sl Q I rx hs pl pu q
 rcases q with q | q
 ·exact h pins s σ H x v vl vu lo hi sl Q I rx hs pl pu q
 ·exact h' pins s σ H x v vl vu lo hi sl Q I rx hs pl pu q
noncomputable def tSl (r:V→Option Int→Option Int→Hp→VK→Prop) (te:TE) (tl th:TO):TE:=fun σ H Q=>te σ H fun x H1=>tl σ H1 fun l H2=>th σ H2 fun u H3=>r x l u H3 Q
theorem cZ {r:V→Option Int→Option Int→Hp→VK→Prop}(hr:SlR X r)(he:PE X e te)(hl:PO X lo tl)(hu:PO X hi th):PE X (.Subscript e (.Slice lo hi none p2) pos) (tSl r te tl th):=by
 intro pins s σ H Q I h
 refine Subscript_ (thn (he pins s σ H _ I h) fun v s1 ⟨x,H1,I1,r1,q1⟩=>?_)
 refine wpAny_Slice (thn (hl pins s1 σ H1 _ I1 q1) fun vl s2 ⟨l,H2,I2,pl,q2⟩=>thn (hu pins s2 σ H2 _ I2 q2) fun vu s3 ⟨u,H3,I3,pu,q3⟩=>?_)
 rw [evalPart_none]
 refine wpAny_pure ?_
 have I4:Inv X pins σ H3 { s3 with heap:=s3.heap.push { cls := .type "slice",data := .fields #[vl,vu, .none] } }:=I3.kept (t':=s3.toks) fun b ob q=>Heap.get?_push_of_some _ q
 obtain ⟨T,id,hT,ht,hg⟩:=hr pins { s3 with heap:=s3.heap.push { cls := .type "slice",data := .fields #[vl,vu, .none] } } σ H3 x v vl vu l u s3.heap.objs.size Q I4 r1 (Heap.IsSliceOf.new ..) pl pu q3
 show wpAny (model X.prog X.w) X.A (subscriptTail e (.Slice lo hi none p2) v (.ref s3.heap.objs.size)) (EP X pins σ Q) X.xe { s3 with heap:=s3.heap.push { cls := .type "slice",data := .fields #[vl,vu, .none] } }
 exact tail_any (ops:=[.ref s3.heap.objs.size,v]) ht hT hg (by with_unfolding_all rfl)
noncomputable def lY (xs:List V) (lo hi:Option Int):List V:=(xs.drop (HT.sIx xs.length 0 lo)).take (HT.sIx xs.length xs.length hi - HT.sIx xs.length 0 lo)
theorem lE (xs:List V)(lo hi:Option Int):(lY xs lo hi).length≤xs.length:=by
 unfold lY
 rw [List.length_take,List.length_drop]
 omega
noncomputable def aCZ (K:PySem.W.Frag):V→Option Int→Option Int→Hp→VK→Prop:=fun x lo hi H Q=>∃ a xs,x = .ref a∧SqT K H a xs ∧
 ¬ (HT.sIx xs.length 0 lo=0∧HT.sIx xs.length xs.length hi=xs.length)∧∀ p,H p=none→Q (.ref p) (upd H p (.tup (lY xs lo hi)))
theorem aBm:SlR X (aCZ X.K):=by
 intro pins s σ H x v vl vu lo hi sl Q I rx hs pl pu h
 obtain ⟨a,xs,rfl,hx,hw,q⟩:=h
 cases rx
 obtain ⟨its,r,ht,hz⟩:=I.tuple hx
 have hlen:its.toArray.size=xs.length:=by rw [List.size_toArray];exact r.length.symm
 refine ⟨"tuple",_,PyProof.Rows.slot_tuple_getitem.lookup,ht.typeIs,?_⟩
 refine HT.getItem_tuple_cut ht hs pl pu (by rw [hlen];exact hw) ?_ (by rw [hlen];exact hz)
 rw [hlen]
 refine ⟨.ref s.heap.objs.size,_,I.laid (t':=s.toks) (o := .tup (lY xs lo hi)) (fun b ob q=>Heap.get?_push_of_some _ q) (Nat.le_refl _) ?_,rfl,q _ (I.hok.fresh (Nat.le_refl _))⟩
 exact ⟨Nat.le_trans (lE xs lo hi) hz,_,(r.drop (HT.sIx xs.length 0 lo)).take (HT.sIx xs.length xs.length hi - HT.sIx xs.length 0 lo),TupN.new _ _⟩
noncomputable def aCl (K:PySem.W.Frag):R2:=fun x y H Q=>∃ a b xs ys,x = .ref a∧y = .ref b∧SqT K H a xs∧SqT K H b ys∧xs≠[]∧xs.length+ys.length≤sizeLine ∧
 (ys=[]→Q (.ref a) H)∧(ys≠[]→∀ p,H p=none→Q (.ref p) (upd H p (.tup (xs++ys))))
theorem Vals.nil_iff {xs:List V}{us:List Value}(r:Vals xs us):us=[]↔xs=[]:=by
 cases r with
 | nil=>simp
 | cons _ _=>simp
theorem aAt:OpR X (binaryOp .Add) (aCl X.K):=by
 intro pins s σ H x y v u Q I rx ry h
 obtain ⟨a,b,xs,ys,rfl,rfl,ha,hb,hx,hz,q1,q2⟩:=h
 cases rx
 cases ry
 obtain ⟨its,r1,p1,_⟩:=I.tuple ha
 obtain ⟨its2,r2,p2,_⟩:=I.tuple hb
 refine HT.cat_tup p1 p2 (fun z=>hx (r1.nil_iff.mp z)) (fun z=>⟨.ref a,H,I,rfl,q1 (r2.nil_iff.mp z)⟩) (fun z=>?_) (by rw [← r1.length,← r2.length];exact hz)
 refine ⟨.ref s.heap.objs.size,_,I.laid (t':=s.toks) (o := .tup (xs++ys)) (fun b ob q=>Heap.get?_push_of_some _ q) (Nat.le_refl _) ?_,rfl,q2 (fun w=>z (r2.nil_iff.mpr w)) _ (I.hok.fresh (Nat.le_refl _))⟩
 exact ⟨by rw [List.length_append];exact hz,_,r1.append r2,TupN.new _ _⟩
end
end L2
namespace L2
open PySem PySem.Spec PyProof.Rows
noncomputable def ixN (n:Nat) (i:Int):Option Nat:=if 0≤i then (if i<n then some i.toNat else none) else if -(n:Int)≤i then some (i+n).toNat else none
noncomputable def atI {α:Type} (xs:List α) (i:Int):Option α:=(ixN xs.length i).bind fun j=>xs[j]?
theorem vB {n:Nat}{i:Int}{j:Nat}(h:ixN n i=some j):seqIndex? i n=some j∧j<n∧-(n:Int)≤i∧i<n:=by
 unfold ixN at h
 by_cases h0:0≤i
 ·rw [if_pos h0] at h
  by_cases h1:i<n
  ·rw [if_pos h1] at h
   have e:i.toNat=j:=Option.some.inj h
   exact ⟨by rw [seqIndex_of h0 h1,e],by omega,by omega,h1⟩
  ·rw [if_neg h1] at h;cases h
 ·rw [if_neg h0] at h
  by_cases h1:-(n:Int)≤i
  ·rw [if_pos h1] at h
   have e:(i+n).toNat=j:=Option.some.inj h
   exact ⟨by rw [seqIndex_neg (by omega) h1,e],by omega,h1,by omega⟩
  ·rw [if_neg h1] at h;cases h
theorem tV {α:Type}{xs:List α}{i:Int}{v:α}(h:atI xs i=some v):∃ j,seqIndex? i xs.length=some j∧xs[j]?=some v∧j<xs.length∧-(xs.length:Int)≤i∧i<xs.length:=by
 unfold atI at h
 cases e:ixN xs.length i with
 | none=>rw [e] at h;cases h
 | some j=>
  rw [e] at h
  obtain ⟨h1,h2,h3,h4⟩:=vB e
  exact ⟨j,h1,h,h2,h3,h4⟩
theorem vD {α:Type}{xs:List α}{j:Nat}{v:α}(h:xs[j]?=some v):atI xs (j:Int)=some v:=by
 have hj:j<xs.length:=(List.getElem?_eq_some_iff.mp h).1
 have e:ixN xs.length (j:Int)=some j:=by
  unfold ixN
  rw [if_pos (by omega),if_pos (by omega)];simp
 unfold atI;rw [e];exact h
noncomputable def aAp (b:Expr):Prop:=∀ o i,subscripted b false o i=operate [o,i] (getItem o i)
noncomputable def IxR (X:Cx) (r:R2):Prop:=
 ∀ (value slice:Expr) (pins:List (Addr × Obj)) (s:Shared) (σ:St) (H:Hp) (x y:V) (v u:Value) (Q:VK),Inv X pins σ H s→RelV x v→RelV y u→r x y H Q →
  subscripted slice false v u=operate [v,u] (getItem v u)→wpAny (model X.prog X.w) X.A (subscriptTail value slice v u) (EP X pins σ Q) X.xe s
noncomputable def MtR (X:Cx) (id:String) (r:V→List V→Hp→VK→Prop):Prop:=
 ∀ (pins:List (Addr × Obj)) (s:Shared) (σ:St) (H:Hp) (x:V) (xs:List V) (v:Value) (us:List Value) (Q:VK),Inv X pins σ H s→RelV x v→Vals xs us→r x xs H Q →
  wpAny (model X.prog X.w) X.A (call (.builtin id) (v :: us)) (EP X pins σ Q) X.xe s
section
variable {X:Cx}{a b:Expr}{ta tb:TE}{pos:Pos}
theorem IxR.or {r r':R2}(h:IxR X r)(h':IxR X r'):IxR X (fun x y H Q=>r x y H Q∨r' x y H Q):=by
 intro value slice pins s σ H x y v u Q I rx ry q hs
 rcases q with q | q
 ·exact h value slice pins s σ H x y v u Q I rx ry q hs
 ·exact h' value slice pins s σ H x y v u Q I rx ry q hs
theorem aZ {r:R2}(hr:IxR X r)(ha:PE X a ta)(hb:PE X b tb)(hs:aAp b):PE X (.Subscript a b pos) (tOp r ta tb):=by
 intro pins s σ H Q I h
 exact Subscript_ (aBZ ha hb I h fun v u s2 x y H2 I2 rx ry q=>hr a b pins s2 σ H2 x y v u Q I2 rx ry q (hs _ _))
noncomputable def aBR (K:PySem.W.Frag):R2:=fun x y H Q=>∃ p xs i v,x = .ref p∧y = .int i∧SqL K H p xs∧atI xs i=some v∧Q v H
noncomputable def aBN (K:PySem.W.Frag):R2:=fun x y H Q=>∃ p xs i v,x = .ref p∧y = .int i∧SqT K H p xs∧atI xs i=some v∧Q v H
theorem zW:IxR X (aBR X.K):=by
 intro value slice pins s σ H x y v u Q I rx ry h hs
 obtain ⟨p,xs,i,z,rfl,rfl,hq,he,q⟩:=h
 cases rx
 obtain ⟨t,rfl⟩:=ry
 obtain ⟨its,r,pl,hz⟩:=I.list hq
 obtain ⟨j,h1,h2,h3,h4,h5⟩:=tV he
 obtain ⟨w,ew,rw'⟩:=r.get h2
 have hl:=r.length
 have hn:=oS
 have fin:EP X pins σ Q w s:=⟨z,H,I,rw',q⟩
 by_cases h0:0≤i
 ·have hj:i.toNat=j:=by
   rw [seqIndex_of h0 h5] at h1
   exact Option.some.inj h1
  exact item_listR pl.isList h0 (by omega) (by rw [hj];simpa using ew) fin hs
 ·have hj:(i+(its.toArray.size:Int)).toNat=j:=by
   rw [seqIndex_neg (by omega) h4] at h1
   rw [List.size_toArray,← hl]
   exact Option.some.inj h1
  exact subscriptTail_builtinR (x:=w) pl.isList.typeIs slot_list_getitem.lookup
   (wpAny_getItem_list_neg (Q:=fun r s'=>r=w∧EP X pins σ Q r s') pl.isList (by omega) (by rw [List.size_toArray] <;> omega) (by omega) (by rw [hj];simpa using ew) ⟨rfl,fin⟩) hs
theorem aAX:IxR X (aBN X.K):=by
 intro value slice pins s σ H x y v u Q I rx ry h hs
 obtain ⟨p,xs,i,z,rfl,rfl,hq,he,q⟩:=h
 cases rx
 obtain ⟨t,rfl⟩:=ry
 obtain ⟨its,r,pl,hz⟩:=I.tuple hq
 obtain ⟨j,h1,h2,h3,h4,h5⟩:=tV he
 obtain ⟨w,ew,rw'⟩:=r.get h2
 have hl:=r.length
 have hn:=oS
 have fin:EP X pins σ Q w s:=⟨z,H,I,rw',q⟩
 exact subscriptTail_builtinR (x:=w) pl.typeIs slot_tuple_getitem.lookup
  (getItem_tuple (j:=j) (Q:=fun r s'=>r=w∧EP X pins σ Q r s') pl (by omega) (by omega) (by rw [List.size_toArray,← hl];exact h1) (by simpa using ew) ⟨rfl,fin⟩) hs
theorem tN (its:List Value)(n j:Nat)(u:Value):Obj.mapSeq (·.setIfInBounds j u) { cls := .type "list",data := .seq its.toArray n }={ cls := .type "list",data := .seq (its.set j u).toArray n }:=by
 simp [Obj.mapSeq]
theorem Inv.lst {pins:List (Addr × Obj)}{σ:St}{H:Hp}{s:Shared}{p:Addr}{xs:List V}(I:Inv X pins σ H s)(h:H p=some (.lst xs)) :
  ∃ (its:List Value) (n:Nat),Vals xs its∧s.heap.get? p=some { cls := .type "list",data := .seq its.toArray n }∧xs.length≤sizeLine:=by
 obtain ⟨z,its,n,r,e⟩:=I.hok p _ h
 exact ⟨its,n,r,e,z⟩
theorem Inv.lstUpd {pins:List (Addr × Obj)}{σ:St}{H:Hp}{s:Shared}{p:Addr}{xs ys:List V}{its its':List Value}{n n':Nat}{f:Obj→Obj}(I:Inv X pins σ H s)(h:H p=some (.lst xs))
  (ho:s.heap.get? p=some { cls := .type "list",data := .seq its.toArray n }) (hf:f { cls := .type "list",data := .seq its.toArray n }={ cls := .type "list",data := .seq its'.toArray n' }) (r:Vals ys its') (hz:ys.length≤sizeLine) (t:Nat) :
  Inv X pins σ (upd H p (.lst ys)) { s with heap:=s.heap.update p f,toks:=t }:=by
 have e:(s.heap.update p f).get? p=some { cls := .type "list",data := .seq its'.toArray n' }:=by
  rw [Heap.get?_update_self f ho (by rw [hf] <;> rfl),hf]
 refine I.write (x:=p) (e:=p) (by rw [h];trivial) (.inl rfl) (fun b u hb q=>(Heap.get?_update_other _ _ (Ne.symm hb)).trans q) ⟨_,e⟩ ?_
 exact ⟨hz,its',n',r,e⟩
noncomputable def dM:V→V→V→Hp→(Hp→Prop)→Prop:=fun o i v H Q=>∃ p xs k j,o = .ref p∧i = .int k∧H p=some (.lst xs)∧ixN xs.length k=some j∧Q (upd H p (.lst (xs.set j v)))
theorem eU:aCJ X dM:=by
 intro pins s σ H o i v ov iv u Q I ro ri rv h
 obtain ⟨p,xs,k,j,rfl,rfl,hp,hj,q⟩:=h
 cases ro
 obtain ⟨t,rfl⟩:=ri
 obtain ⟨its,n,r,ho,hz⟩:=I.lst hp
 obtain ⟨h1,h2,h3,h4⟩:=vB hj
 have hl:=r.length
 have hn:=oS
 have I':Inv X pins σ (upd H p (.lst (xs.set j v))) { s with heap:=s.heap.update p (Obj.mapSeq (·.setIfInBounds j u)) }:=
  I.lstUpd hp ho (tN its n j u) (r.set rv j) (by rw [List.length_set];exact hz) s.toks
 by_cases h0:0≤k
 ·have hk:k.toNat=j:=by
   rw [seqIndex_of h0 h4] at h1
   exact Option.some.inj h1
  exact PySem.W.ki_setAt ho h0 (by omega) (by rw [List.size_toArray,← hl];exact h4) (by rw [hk];exact ⟨_,I',q⟩)
 ·have hk:(k+(its.toArray.size:Int)).toNat=j:=by
   rw [seqIndex_neg (by omega) h3] at h1
   rw [List.size_toArray,← hl]
   exact Option.some.inj h1
  exact PySem.W.ki_setBack ho (by omega) (by rw [List.size_toArray,← hl];exact h3) (by omega) (by rw [hk];exact ⟨_,I',q⟩)
theorem pM (lo hi:Option Int)(n:Nat):(sliceBounds lo hi none n).1=((HT.sIx n 0 lo:Nat):Int)∧(sliceBounds lo hi none n).2.1=((HT.sIx n n hi:Nat):Int)∧(sliceBounds lo hi none n).2.2=1:=by
 refine ⟨?_,?_,rfl⟩
 ·cases lo with
  | none=>simp [sliceBounds,HT.sIx]
  | some i=>
   simp only [sliceBounds,HT.sIx,Option.getD_none,show (1:Int) > 0 by decide,if_true]
   by_cases h:i<0
   ·simp only [h,if_true] <;> omega
   ·simp only [h,if_false] <;> omega
 ·cases hi with
  | none=>simp [sliceBounds,HT.sIx]
  | some i=>
   simp only [sliceBounds,HT.sIx,Option.getD_none,show (1:Int) > 0 by decide,if_true]
   by_cases h:i<0
   ·simp only [h,if_true] <;> omega
   ·simp only [h,if_false] <;> omega
theorem nB (its:List Value)(lo hi:Option Int):slicePick its.toArray lo hi none=((its.drop (HT.sIx its.length 0 lo)).take (HT.sIx its.length its.length hi - HT.sIx its.length 0 lo)).toArray:=by
 obtain ⟨h1,h2,h3⟩:=pM lo hi its.toArray.size
 unfold slicePick
 rw [h1,h2,h3]
 simp only [sliceRange_one,pick_run,List.size_toArray] <;> rfl
noncomputable def aCW (K:PySem.W.Frag):V→Option Int→Option Int→Hp→VK→Prop:=fun x lo hi H Q=>∃ a xs,x = .ref a∧SqL K H a xs∧∀ p,H p=none→Q (.ref p) (upd H p (.lst (lY xs lo hi)))
theorem zJ:SlR X (aCW X.K):=by
 intro pins s σ H x v vl vu lo hi sl Q I rx hs pl pu h
 obtain ⟨a,xs,rfl,hx,q⟩:=h
 cases rx
 obtain ⟨its,r,ht,hz⟩:=I.list hx
 have hlen:=r.length
 refine ⟨"list",_,slot_list_getitem.lookup,ht.isList.typeIs,?_⟩
 refine wpAny_getItem_list_slice ht.isList hs pl pu .none (by simp) ?_ (by rw [List.size_toArray] <;> omega)
 rw [nB,← hlen]
 refine ⟨.ref s.heap.objs.size,_,I.laid (t':=s.toks) (o := .lst (lY xs lo hi)) (fun b ob q=>Heap.get?_push_of_some _ q) (Nat.le_refl _) ?_,rfl,q _ (I.hok.fresh (Nat.le_refl _))⟩
 exact ⟨Nat.le_trans (lE xs lo hi) hz,_,0,(r.drop (HT.sIx xs.length 0 lo)).take (HT.sIx xs.length xs.length hi - HT.sIx xs.length 0 lo),Heap.get?_push_size _ rfl⟩
noncomputable def lU:V→Bool
 | .non=>true
 | .bl _=>true
 | .int _=>true
 | .str _=>true
 | _=>false
noncomputable def eqV:V→V→Bool
 | .non, .non=>true
 | .bl a, .bl b=>a == b
 | .bl a, .int b=>(if a then 1 else 0) == b
 | .int a, .bl b=>a == (if b then 1 else 0)
 | .int a, .int b=>a == b
 | .str a, .str b=>a == b
 | _,_=>false
theorem aAA {A:Around}{s:Shared}{y x:V}{u v:Value}(ry:RelV y u)(rx:RelV x v)(fy:lU y=true)(fx:lU x=true):SeqAt.EqAt A s u v (eqV y x):=by
 cases y with
 | non=>
  cases ry
  cases x with
  | non=>cases rx;exact SeqAt.EqAt.same _
  | bl b=>cases rx;exact SeqAt.EqAt.none_bool b
  | int b=>obtain ⟨t,rfl⟩:=rx;exact SeqAt.EqAt.none_int b t
  | str b=>obtain ⟨t,rfl⟩:=rx;exact SeqAt.EqAt.none_str b t
  | _=>exact absurd (show false=true from fx) Bool.false_ne_true
 | bl a=>
  cases ry
  cases x with
  | non=>cases rx;exact SeqAt.EqAt.bool_none a
  | bl b=>cases rx;exact SeqAt.EqAt.bool_bool a b
  | int b=>obtain ⟨t,rfl⟩:=rx;exact SeqAt.EqAt.bool_int a b t
  | str b=>obtain ⟨t,rfl⟩:=rx;exact SeqAt.EqAt.bool_str a b t
  | _=>exact absurd (show false=true from fx) Bool.false_ne_true
 | int a=>
  obtain ⟨t',rfl⟩:=ry
  cases x with
  | non=>cases rx;exact SeqAt.EqAt.int_none a t'
  | bl b=>cases rx;exact SeqAt.EqAt.int_bool a t' b
  | int b=>obtain ⟨t,rfl⟩:=rx;exact SeqAt.EqAt.int_int a t' b t
  | str b=>obtain ⟨t,rfl⟩:=rx;exact SeqAt.EqAt.int_str a t' b t
  | _=>exact absurd (show false=true from fx) Bool.false_ne_true
 | str a=>
  obtain ⟨t',rfl⟩:=ry
  cases x with
  | non=>cases rx;exact SeqAt.EqAt.str_none a t'
  | bl b=>cases rx;exact SeqAt.EqAt.str_bool a t' b
  | int b=>obtain ⟨t,rfl⟩:=rx;exact SeqAt.EqAt.str_int a t' b t
  | str b=>obtain ⟨t,rfl⟩:=rx;exact SeqAt.EqAt.str_str a t' b t
  | _=>exact absurd (show false=true from fx) Bool.false_ne_true
 | _=>exact absurd (show false=true from fy) Bool.false_ne_true
noncomputable def eqU (x:V) (u:Value):Bool:=match u with
 | .none=>eqV .non x
 | .bool b=>eqV (.bl b) x
 | .int i _=>eqV (.int i) x
 | .str z _=>eqV (.str z) x
 | _=>false
theorem uQ {x y:V}{u:Value}(r:RelV y u)(f:lU y=true):eqU x u=eqV y x:=by
 cases y with
 | non=>cases r;rfl
 | bl b=>cases r;rfl
 | int i=>obtain ⟨t,rfl⟩:=r;rfl
 | str z=>obtain ⟨t,rfl⟩:=r;rfl
 | _=>exact absurd (show false=true from f) Bool.false_ne_true
theorem nR {A:Around}{s:Shared}{x:V}{v:Value}(rx:RelV x v)(fx:lU x=true):∀ {xs:List V} {us:List Value},Vals xs us→xs.all lU=true→∀ u∈us,SeqAt.EqAt A s u v (eqU x u)
 | _,_, .nil,_=>fun u hu=>by cases hu
 | y :: xs,u :: us, .cons r t,f=>fun u' hu=>by
  rw [List.all_cons,Bool.and_eq_true] at f
  rcases List.mem_cons.mp hu with rfl | hu
  ·rw [uQ r f.1];exact aAA r rx f.1 fx
  ·exact nR rx fx t f.2 u' hu
theorem pA:CallR X (.builtin "len") (fun xs H Q=>∃ p ys,xs=[.ref p]∧(SqL X.K H p ys∨SqT X.K H p ys)∧Q (.int ys.length) H):=by
 intro pins s σ H xs us Q I r h
 obtain ⟨p,ys,rfl,hq,q⟩:=h
 obtain ⟨u,rfl,rx⟩:=pG r
 cases rx
 have hn:=oS
 rcases hq with hq | hq
 ·obtain ⟨its,r',pl,hz⟩:=I.list hq
  have hlen:=r'.length
  exact Calls.call_len_list pl.isList (by simp only [List.size_toArray] <;> omega) ⟨.int ys.length,H,I.tok _,⟨s.toks+1,by rw [List.size_toArray,hlen]⟩,q⟩
 ·obtain ⟨its,r',pl,hz⟩:=I.tuple hq
  have hlen:=r'.length
  exact len_tuple pl (by simp only [List.size_toArray] <;> omega) ⟨.int ys.length,H,I.tok _,⟨s.toks+1,by rw [List.size_toArray,hlen]⟩,q⟩
theorem CallR.or {f:Value}{r r':List V→Hp→VK→Prop}(h:CallR X f r)(h':CallR X f r'):CallR X f (fun xs H Q=>r xs H Q∨r' xs H Q):=by
 intro pins s σ H xs us Q I rs q
 rcases q with q | q
 ·exact h pins s σ H xs us Q I rs q
 ·exact h' pins s σ H xs us Q I rs q
theorem pV:CallR X (.type "list") (fun xs H Q=>∃ p ys,xs=[.ref p]∧(SqL X.K H p ys∨SqT X.K H p ys)∧∀ l,H l=none→Q (.ref l) (upd H l (.lst ys))):=by
 intro pins s σ H xs us Q I r h
 obtain ⟨p,ys,rfl,hq,q⟩:=h
 obtain ⟨u,rfl,rx⟩:=pG r
 cases rx
 have fin:∀ (its:List Value),Vals ys its→ys.length≤sizeLine→∀ (h':Heap) (c':Nat),(∀ b o',s.heap.get? b=some o'→h'.get? b=some o') →
   h'.get? s.heap.objs.size=some { cls := .type "list",dict:=none,data := .seq its.toArray c',slots:=#[] }→EP X pins σ Q (.ref s.heap.objs.size) { s with heap:=h' }:=fun its r' hz h' c' kp e=>
  ⟨.ref s.heap.objs.size,_,I.laid (t':=s.toks) kp (Nat.le_refl _) (show ObjOk X.prog X.w _ h' _ (.lst ys) from ⟨hz,its,c',r',e⟩),rfl,q _ (I.hok.fresh (Nat.le_refl _))⟩
 rcases hq with hq | hq
 ·obtain ⟨its,r',pl,hz⟩:=I.list hq
  have hlen:=r'.length
  obtain ⟨o,ho,hc,n,hd⟩:=pl.isList
  exact call_list_seq p (.inl rfl) ho hc hd (fun h' c' kp e=>fin its r' hz h' c' kp e) (by simp only [List.size_toArray] <;> omega)
 ·obtain ⟨its,r',pl,hz⟩:=I.tuple hq
  have hlen:=r'.length
  obtain ⟨o,ho,hc,n,hd⟩:=pl
  exact call_list_seq p (.inr rfl) ho hc hd (fun h' c' kp e=>fin its r' hz h' c' kp e) (by simp only [List.size_toArray] <;> omega)
theorem oD:CallR X (.type "tuple") (fun xs H Q=>∃ p ys,xs=[.ref p]∧((SqL X.K H p ys∧∀ l,H l=none→Q (.ref l) (upd H l (.tup ys)))∨(SqT X.K H p ys∧Q (.ref p) H))):=by
 intro pins s σ H xs us Q I r h
 obtain ⟨p,ys,rfl,h⟩:=h
 obtain ⟨u,rfl,rx⟩:=pG r
 cases rx
 rcases h with ⟨hq,q⟩ | ⟨hq,q⟩
 ·obtain ⟨its,r',pl,hz⟩:=I.list hq
  have hlen:=r'.length
  refine call_tuple_list pl.isList (fun h' kp=>?_) (by simp only [List.size_toArray] <;> omega)
  have I1:Inv X pins σ H { s with heap:=h' }:=I.kept (t':=s.toks) kp
  have I2:Inv X pins σ (upd H h'.objs.size (.tup ys)) { s with heap:=h'.push { cls := .type "tuple",data := .seq its.toArray } }:=
   I1.laid (t':=s.toks) (fun b o e=>Heap.get?_push_of_some _ e) (Nat.le_refl _) (show ObjOk X.prog X.w _ _ _ (.tup ys) from ⟨hz,its,r',TupN.new _ _⟩)
  exact ⟨.ref h'.objs.size,_,I2,rfl,q _ (I1.hok.fresh (Nat.le_refl _))⟩
 ·obtain ⟨its,r',pl,hz⟩:=I.tuple hq
  exact call_tuple_same pl ⟨.ref p,H,I,rfl,q⟩
noncomputable def tyV (K:PySem.W.Frag) (T:String) (x:V) (H:Hp):Prop:=match x with
 | .str _=>T="str"
 | .int _=>T="int"
 | .ref p=>(T="list"∧∃ xs,SqL K H p xs)∨(T="tuple"∧∃ o,K.lookup p=some o∧o.cls = .type "tuple"∧o.dict=none) ∨
   (T="dict"∧((∃ kvs,H p=some (.dK kvs))∨∃ kvs,H p=some (.dT kvs)))∨(T="set"∧∃ S n,H p=some (.set S n))
 | _=>False
theorem aBp {pins:List (Addr × Obj)}{σ:St}{H:Hp}{s:Shared}{T:String}{x:V}{v:Value}(I:Inv X pins σ H s)(r:RelV x v)(ty:tyV X.K T x H) :
  s.TypeIs v T∧∀ a,v = .ref a→∃ ob,s.heap.get? a=some ob∧ob.dict=none:=by
 cases x with
 | str z=>
  obtain ⟨t,rfl⟩:=r
  cases (show T="str" from ty)
  exact ⟨typeIs_str s z t,fun _ e=>nomatch e⟩
 | int i=>
  obtain ⟨t,rfl⟩:=r
  cases (show T="int" from ty)
  exact ⟨typeIs_int s i t,fun _ e=>nomatch e⟩
 | ref p=>
  cases r
  rcases ty with ⟨rfl,xs,hq⟩ | ⟨rfl,o,hk,hc,hd⟩ | ⟨rfl,hk⟩ | ⟨rfl,S,n,hk⟩
  ·obtain ⟨its,_,pl,_⟩:=I.list hq
   refine ⟨pl.isList.typeIs,fun a e=>?_⟩
   cases e
   obtain ⟨o,n,e,c,hd,_⟩:=pl
   exact ⟨o,e,hd⟩
  ·refine ⟨⟨o,I.kIn p o hk,hc⟩,fun a e=>?_⟩
   cases e
   exact ⟨o,I.kIn _ o hk,hd⟩
  ·have z:∃ o,s.heap.get? p=some o∧o.ExactDict:=by
    rcases hk with ⟨kvs,hk⟩ | ⟨kvs,hk⟩
    ·obtain ⟨_,_,_,_,o,_,_,e,ex,_⟩:=I.hok p _ hk
     exact ⟨o,e,ex⟩
    ·obtain ⟨_,_,_,_,o,_,_,e,ex,_⟩:=I.hok p _ hk
     exact ⟨o,e,ex⟩
   obtain ⟨o,e,ex⟩:=z
   refine ⟨⟨o,e,ex.1⟩,fun a e2=>?_⟩
   cases e2
   exact ⟨o,e,ex.2.1⟩
  ·obtain ⟨o,_,_,_,e,ex,_⟩:=I.hok p _ hk
   refine ⟨⟨o,e,ex.1⟩,fun a e2=>?_⟩
   cases e2
   exact ⟨o,e,ex.2.1⟩
 | _=>exact False.elim ty
noncomputable def tBM (K:PySem.W.Frag) (T:String) (r:V→List V→Hp→VK→Prop) (to:TE) (t:TA):TE:=fun σ H Q=>to σ H fun x H1=>tyV K T x H1∧t σ H1 fun xs H2=>r x xs H2 Q
variable {o e:Expr}{es:List Expr}{to:TE}{t:TA}{name:Str}{apos cpos:Pos}{T id:String}{r:V→List V→Hp→VK→Prop}
theorem aBV (pa:PlainAttrs T)(slot:Slot T name id)(hty:typeOf (.builtin id)=pure (.type "method_descriptor"))(hm:MtR X id r)(ho:PE X o to)(ha:PA X (e :: es) t)
  (hbase:attributeBase o name X.env (eval o X.env)=eval o X.env:=by rfl)
  (hfew:((backTo cpos (starEach (e :: es) X.env)).all (fun x=>!x.1) && (backToKw cpos (keywordEach [] X.env)).all (fun x=>x.1.isSome)
   && decide ((e :: es).length+([]:List Keyword).length+(if ([]:List Keyword).isEmpty then 0 else 1)<30))=true:=by rfl)
  (hline:(apos.endLine == cpos.line)=true:=by rfl) (hs:starEach (e :: es) X.env=(false,eval e X.env) :: starEach es X.env:=by rfl) (hplain:(backTo cpos (starEach es X.env)).any (·.1)=false:=by rfl) :
  PE X (.Call (.Attribute o name apos) (e :: es) [] cpos) (tBM X.K T r to t):=by
 intro pins s σ H Q I h
 refine wpAny_Call_method_late hbase hfew hline rfl (thn (ho pins s σ H _ I h) fun v s1 ⟨x,H1,I1,r1,ty,q1⟩=>?_)
 obtain ⟨h1,h2⟩:=aBp I1 r1 ty
 refine ⟨T,id,pa,slot,hty,h1,h2,?_⟩
 have hA:=ha cpos pins s1 σ H1 _ I1 q1
 rw [hs] at hA ⊢
 refine Calls.callWith_builtin (by show (false || (backTo cpos (starEach es X.env)).any (·.1))=false;rw [hplain] <;> rfl) (Calls.evalArgs_plain ?_)
 exact thn hA fun us s2 ⟨vs,H2,I2,r2,q2⟩=>hm pins s2 σ H2 x vs v us Q I2 r1 r2 q2
end
end L2
namespace L2
open PySem PySem.Spec PyProof.Rows
noncomputable def MtM (X:Cx) (id:String) (r:V→List V→Hp→VK→Prop):Prop:=
 ∀ (pins:List (Addr × Obj)) (s:Shared) (σ:St) (H:Hp) (x:V) (xs:List V) (v:Value) (us:List Value) (Q:VK),Inv X pins σ H s→RelV x v→Vals xs us→r x xs H Q →
  wpAny (model X.prog X.w) X.A (call (.builtin id) (v :: us)) (EP X pins σ Q) X.xe s
theorem Vals.one:∀ {x:V} {us:List Value},Vals [x] us→∃ u,us=[u]∧RelV x u
 | _,_, .cons r .nil=>⟨_,rfl,r⟩
theorem Vals.two:∀ {x y:V} {us:List Value},Vals [x,y] us→∃ u v,us=[u,v]∧RelV x u∧RelV y v
 | _,_,_, .cons r (.cons q .nil)=>⟨_,_,rfl,r,q⟩
theorem Vals.eraseIdx:∀ {xs:List V} {us:List Value} (i:Nat),Vals xs us→Vals (xs.eraseIdx i) (us.eraseIdx i)
 | _,_,_, .nil => .nil
 | _,_,0, .cons _ t=>t
 | _,_,i+1, .cons r t => .cons r (Vals.eraseIdx i t)
theorem Vals.rep {xs:List V}{us:List Value}(h:Vals xs us):∀ k:Nat,Vals (List.replicate k xs).flatten (List.replicate k us).flatten
 | 0 => .nil
 | k+1=>by
  rw [List.replicate_succ,List.replicate_succ,List.flatten_cons,List.flatten_cons]
  exact Vals.append h (Vals.rep h k)
theorem pY {α:Type}:∀ (l:List α) (i:Nat),(l.eraseIdx i).length≤l.length
 | [],_=>Nat.le_refl _
 | _ :: _,0=>Nat.le_succ _
 | _ :: r,i+1=>Nat.succ_le_succ (pY r i)
theorem oY (its:List Value):∀ (k:Nat) (acc:List Value),
  List.foldl (fun x1 x2=>x1++x2) acc.toArray (List.replicate k its.toArray)=(acc++(List.replicate k its).flatten).toArray
 | 0,acc=>by simp
 | k+1,acc=>by
  have e:acc.toArray++its.toArray=(acc++its).toArray:=by simp
  have e2:(acc++its)++(List.replicate k its).flatten=acc++(List.replicate (k+1) its).flatten:=by
   rw [List.replicate_succ,List.flatten_cons,List.append_assoc]
  rw [← e2,← oY its k (acc++its),← e,List.replicate_succ,List.foldl_cons]
section
variable {X:Cx}{pins:List (Addr × Obj)}{σ:St}{H:Hp}{s:Shared}{l b:Addr}{xs ys zs:List V}
theorem Inv.lset {its its':List Value}{n:Nat}{f:Array Value→Array Value}{t':Nat}(I:Inv X pins σ H s)(hH:H l=some (.lst xs))
  (e:s.heap.get? l=some { cls := .type "list",data := .seq its.toArray n }) (hf:f its.toArray=its'.toArray) (hv:Vals ys its') (hz:ys.length≤sizeLine) :
  Inv X pins σ (upd H l (.lst ys)) { s with heap:=s.heap.update l (Obj.mapSeq f),toks:=t' }:=by
 have q:=PySem.IsL.update e f
 rw [hf] at q
 refine I.write (x:=l) (e:=l) (by rw [hH];exact trivial) (.inl rfl) (fun b' u hb hu=>(Heap.get?_update_other s.heap (Obj.mapSeq f) (Ne.symm hb)).trans hu) ⟨_,q⟩ ?_
 exact ⟨hz,its',_,hv,q⟩
theorem Inv.lnew {its:List Value}{t':Nat}(I:Inv X pins σ H s)(hv:Vals ys its)(hz:ys.length≤sizeLine) :
  Inv X pins σ (upd H s.heap.objs.size (.lst ys)) { s with heap:=s.heap.push { cls := .type "list",data := .seq its.toArray },toks:=t' }:=
 I.laid (fun _ _ q=>Heap.get?_push_of_some _ q) (Nat.le_refl _) ⟨hz,its,0,hv,Heap.get?_push_size _ rfl⟩
theorem Inv.fresh (I:Inv X pins σ H s):H s.heap.objs.size=none:=I.hok.fresh (Nat.le_refl _)
theorem Inv.lstM (I:Inv X pins σ H s)(hH:H l=some (.lst xs)):xs.length≤sizeLine∧∃ (its:List Value) (n:Nat),Vals xs its∧xs.length=its.length∧s.heap.get? l=some { cls := .type "list",data := .seq its.toArray n }:=by
 obtain ⟨z,its,n,r,e⟩:=I.hok l _ hH
 exact ⟨z,its,n,r,r.length,e⟩
theorem xF {n:Nat}(h:n≤sizeLine):Builtin.List.listTooLong n=false:=by
 unfold Builtin.List.listTooLong
 exact decide_eq_false (by omega)
end
section
variable {X:Cx}
noncomputable def kN:V→List V→Hp→VK→Prop:=fun x vs H Q=>∃ l xs y,x = .ref l∧vs=[y]∧H l=some (.lst xs)∧xs.length<sizeLine∧Q .non (upd H l (.lst (xs++[y])))
theorem fP:MtM X "list.append" kN:=by
 intro pins s σ H x vs v us Q I rx rv h
 obtain ⟨l,xs,y,rfl,rfl,hH,hz,q⟩:=h
 cases rx
 obtain ⟨u,rfl,ru⟩:=rv.one
 obtain ⟨z,its,n,r,hl,e⟩:=I.lstM hH
 refine call_meets F.slot_list_append ⟨_,e,rfl⟩ F.entry_list_append (F.args_list_append_2 _ _) (PySem.list_append l its.toArray n u (by rw [List.size_toArray];omega)) ⟨e,?_⟩
 refine ⟨.non,_,I.lset (its':=its++[u]) hH e (by simp) (r.append (.cons ru .nil)) ?_,rfl,q⟩
 rw [List.length_append,List.length_singleton]
 omega
noncomputable def yV:V→List V→Hp→VK→Prop:=fun x vs H Q=>∃ l xs i k y,x = .ref l∧vs=[.int i]∧H l=some (.lst xs)∧-(2 ^ 63)≤i∧i<2 ^ 63∧seqIndex? i xs.length=some k∧xs[k]?=some y∧Q y (upd H l (.lst (xs.eraseIdx k)))
theorem xT:MtM X "list.pop" yV:=by
 intro pins s σ H x vs v us Q I rx rv h
 obtain ⟨l,xs,i,k,y,rfl,rfl,hH,h1,h2,hk,hy,q⟩:=h
 cases rx
 obtain ⟨u,rfl,ru⟩:=rv.one
 obtain ⟨t,rfl⟩:=ru
 obtain ⟨z,its,n,r,hl,e⟩:=I.lstM hH
 obtain ⟨w,hw,rw'⟩:=r.get hy
 refine call_meets F.slot_list_pop ⟨_,e,rfl⟩ F.entry_list_pop (F.args_list_pop_2 _ _)
  (MeetsSeq.list_pop_at l its.toArray n i t k w (fitsIndex_both h1 h2) (by rw [List.size_toArray,← hl];exact hk) (by rw [← Array.getElem?_toList];exact hw) (by rw [List.size_toArray];omega)) ⟨e,?_⟩
 refine ⟨y,_,I.lset (its':=its.eraseIdx k) hH e ?_ (r.eraseIdx k) ?_,rw',q⟩
 ·show its.toArray.eraseIdxIfInBounds k=(its.eraseIdx k).toArray
  rw [List.eraseIdxIfInBounds_toArray]
 ·have:=pY xs k
  omega
noncomputable def aCP:R2:=fun x y H Q=>∃ l b xs zs,x = .ref l∧y = .ref b∧H l=some (.lst xs)∧H b=some (.lst zs)∧xs.length+zs.length≤sizeLine∧∀ p,H p=none→Q (.ref p) (upd H p (.lst (xs++zs)))
theorem aBD:OpR X (binaryOp .Add) aCP:=by
 intro pins s σ H x y v u Q I rx ry h
 obtain ⟨l,b,xs,zs,rfl,rfl,hH,hB,hz,q⟩:=h
 cases rx
 cases ry
 obtain ⟨z,its,n,r,hl,e⟩:=I.lstM hH
 obtain ⟨z2,its2,n2,r2,hl2,e2⟩:=I.lstM hB
 refine PySem.P.add_list e e2 ?_ (by rw [List.size_toArray,List.size_toArray];omega)
 have ea:its.toArray++its2.toArray=(its++its2).toArray:=by simp
 rw [ea]
 exact ⟨.ref _,_,I.lnew (t':=s.toks) (r.append r2) (by rw [List.length_append];omega),rfl,q _ I.fresh⟩
noncomputable def aCU:R2:=fun x y H Q=>∃ l k xs,x = .ref l∧y = .int k∧H l=some (.lst xs)∧-(2 ^ 63)≤k∧k<2 ^ 63∧xs.length*k.toNat≤sizeLine ∧
 ∀ p,H p=none→Q (.ref p) (upd H p (.lst (List.replicate k.toNat xs).flatten))
theorem aAf {α:Type}(xs:List α)(k:Nat):(List.replicate k xs).flatten.length=k*xs.length:=by
 induction k with
 | zero=>simp
 | succ k ih=>rw [List.replicate_succ,List.flatten_cons,List.length_append,ih,Nat.succ_mul,Nat.add_comm]
theorem aBo:OpR X (binaryOp .Mult) aCU:=by
 intro pins s σ H x y v u Q I rx ry h
 obtain ⟨l,k,xs,rfl,rfl,hH,h1,h2,hz,q⟩:=h
 cases rx
 obtain ⟨t,rfl⟩:=ry
 obtain ⟨z,its,n,r,hl,e⟩:=I.lstM hH
 have hlen:its.toArray.size*k.toNat≤sizeLine:=by rw [List.size_toArray,← hl];exact hz
 have hcap:¬ its.toArray.size*k.toNat > (2 ^ 63 - 1) / 8:=by
  have:(sizeLine:Nat)≤(2 ^ 63 - 1) / 8:=by decide
  omega
 have hfit:¬ (!Builtin.List.listFitsIndex k)=true:=by
  rw [fitsIndex_both h1 h2]
  exact Bool.false_ne_true
 have hlong:¬ Builtin.List.listTooLong (its.toArray.size*k.toNat)=true:=by
  rw [xF hlen]
  exact Bool.false_ne_true
 have hnew:List.foldl (fun x1 x2=>x1++x2) #[] (List.replicate (if its.toArray.isEmpty=true then 0 else k.toNat) its.toArray)=(List.replicate k.toNat its).flatten.toArray:=by
  have f0:∀ m:Nat,List.foldl (fun x1 x2=>x1++x2) #[] (List.replicate m its.toArray)=(List.replicate m its).flatten.toArray:=fun m=>by
   have:=oY its m []
   rw [List.nil_append] at this
   exact this
  rw [f0]
  cases its with
  | nil=>simp
  | cons a r'=>rw [if_neg (by simp)]
 refine wpAny_binaryOp_repeat_ref (T:="list") (U:="int") (by decide) ⟨_,e,rfl⟩ (fun s'=>typeIs_int s' k t) noFill_list_mul F.fills_int_mul F.slot_int_rmul repeat_list F.slot_int_index.lookup
  (call_meets F.slot_int_rmul (typeIs_int s k t) F.entry_int_rmul (F.args_int_rmul_2 _ _) (int___rmul___int_list k t l its.toArray n)
   ⟨e,rfl,⟨_,e,rfl⟩,call_meets F.slot_list_mul ⟨_,e,rfl⟩ F.entry_list_mul (F.args_list_mul_2 _ _) (AutoListH.list___mul___list_int_3 l its.toArray n k t hfit hcap hlong) ⟨e,?_⟩⟩)
 rw [hnew]
 exact ⟨.ref _,_,I.lnew (t':=s.toks) (r.rep k.toNat) (by rw [aAf,Nat.mul_comm];exact hz),rfl,q _ I.fresh⟩
end
section
variable {prog:Program}{w:World}{A:Around}{E:Value→Shared→Prop}{s:Shared}
end
section
variable {X:Cx}
end
end L2
namespace Att
open PySem PySem.W PySem.Calls PyProof.Rows
theorem lC {P:Params}{h:Heap}:∀ (ns:List Int) (vs:List Value),WellAll P h vs (ns.map WData.int)→IntsAre vs ns:=by
 intro ns
 induction ns with
 | nil=>
  intro vs w
  rw [List.map_nil] at w
  cases w
  exact .nil
 | cons n ns ih=>
  intro vs w
  rw [List.map_cons] at w
  cases w with
  | cons a b=>
   cases a
   exact .cons _ _ (ih _ b)
theorem uU {l:OpenLaw}{n:Nat}(hn:l.most=some n){P:Params}{h:Heap}{args:List WData}{vals:List Value}
  (hpre:l.row.toRowW.claim.pre args=true) (hwl:WellAll P h vals args) :
  ∃ a vs ns,vals=[Value.ref a]∧args=[WData.list (ns.map WData.int)]∧h.get? a=some { cls := .type "list",data := .seq vs.toArray }∧IntsAre vs ns∧ns.length≤n:=by
 have hsh:WShape.hasAll [] args [.list .int]=true:=(pre_splitW hpre).1
 have hc:l.pre.holds [] { args:=args }=true:=(pre_splitW hpre).2
 obtain ⟨d,r,rfl,h1,h2⟩:=hasAllW_cons hsh
 obtain rfl:=hasAllW_nil h2
 obtain ⟨xs,rfl,h3⟩:=hasW_list h1
 obtain ⟨ns,rfl⟩:=items_int h3
 have hlen:ns.length≤n:=by
  unfold OpenLaw.pre at hc
  have h4:(WTm.not (.lt (.lit (.int (n:Int))) (.len (.arg 0)))).holds [] { args:=[.list (ns.map .int)] }=true:=by
   have h4:=(holds_andW hc).1
   rw [hn] at h4
   exact h4
  have h5:=condW_of h4 (w_not (w_lt w_lit (w_len_list (w_arg rfl))))
  rw [List.length_map] at h5
  refine Nat.le_of_not_lt fun q=>?_
  have q':(n:Int)<((ns.length:Nat):Int):=by omega
  first
   | (rw [decide_eq_true q'] at h5;exact absurd h5 (by decide))
   | (simp at h5;omega)
 cases hwl with
 | cons w1 w2=>
  cases w2
  cases w1 with
  | list ho hall=>exact ⟨_,_,ns,rfl,rfl,ho,lC ns _ hall,hlen⟩
theorem vZ (l:OpenLaw)(args:List WData):l.row.toRowW.claim.post args (.bool true) args=true:=
 postW_of (r:=l.row.toRowW) (X:=(true == true))
  (show WShape.has [] (.bool true) .bool=true by first | rfl | decide | simp [WShape.has,WShape.arms,WShape.armsAll])
  (show (WTm.eq .res (.lit (.bool true))).value [] { args:=args,res:=some (.bool true),after:=args }=some (.bool (true == true)) from w_eq_bool (w_res rfl) w_lit) rfl
theorem attach_call {l:OpenLaw}{n:Nat}{q:Program}{loose:List Str}{XP:(Str→Option Value)→Heap→Prop}{YP:World→Heap→Prop}{d:DefRec}
  (hn:l.most=some n) (hdf:d.params.defaults=[])
  (call:∀ (w:World) (s₀ s₁:Shared) (mg mb:Str→Option Value) (fa:Addr) (o:Obj) (pm cd doc:Value) (a:Addr) (vs:List Value) (ns:List Int),
   Ground q loose [] XP w s₀ mg mb s₁.heap→YP w s₁.heap →
   s₁.heap.get? fa=some o→o.data = .func (docDef d.name d.params d.body d.scope pm cd doc)→s₁.heap.CodeRec cd d.name→mg d.name=some (.ref fa) →
   s₁.heap.get? a=some { cls := .type "list",data := .seq vs.toArray }→IntsAre vs ns→ns.length≤n→s₁.gens=#[] →
   codeAny (model l.prog w) callerA (.call (.ref fa) ⟨[.ref a],[]⟩) (fun r s'=>r = .ok (.ret (.bool true))∧OldK s₁.heap s'.heap∧s'.os=s₁.os∧AllBare s'.gens) s₁) :
  WalkO q loose XP YP l.row.toRowW d [] (fun f vs=>PySem.call f vs):=by
 intro w s₀ s₁ mg mb G Y fa o pm cd doc dV kV ho hd hcd hD hmg hg args vals as hpre hlay hrd hwl hlo
 obtain rfl:dV = .none:=Dflts.none hD hdf
 obtain rfl:kV = .none:=Dflts.noKw hD
 obtain ⟨a,vs,ns,rfl,rfl,hobj,hints,hlen⟩:=uU hn hpre hwl
 refine enter_call (codeAny_mono (call w s₀ s₁ mg mb fa o pm cd doc a vs ns G Y ho (fd_plain hd) hcd hmg hobj hints hlen hg) fun r s' hq=>?_)
 obtain ⟨rfl,h2,h3,h4⟩:=hq
 exact ⟨.inl ⟨.bool true, .bool true,[],rfl,fun _=>rfl, .bool true,vZ l _,fun _=>⟨List.Pairwise.nil,fun _ hm=>(nomatch hm)⟩⟩,h2,h3,h4⟩
section
variable {prog:Program}{w:World}{A:Around}{E:Value→Shared→Prop}{s:Shared}{K:Frag}
end
end Att
namespace L2
open PySem PySem.Spec PyProof.Rows
theorem pC:∀ {vs:List Value} {ns:List Int},IntsAre vs ns→Vals (ns.map V.int) vs
 | _,_, .nil => .nil
 | _,_, .cons n t h => .cons ⟨t,rfl⟩ (pC h)
noncomputable def aCi (H:Hp):Prop:=∀ b,H b=none∨∃ o xs,H b=some (.frz o (.lst xs))
theorem xL {P:Program}{w:World}{K:PySem.W.Frag}{mg mb:Str→Option Value}{CX:CXT}{k:Nat}{fa a:Addr}{fd:FuncData}{x:Str}{sp:Sp}{s₁:Shared}{vs:List Value}{ns:List Int}
  (KX:K.In s₁.heap) (hns:s₁.heap.Ns mainGlobals mg) (hb:s₁.heap.Ns builtinsNs mb) (hbb:∀ x:Str,x≠"__name__"→mb x=bootBuiltins x) (hlim:s₁.heap.NoLimit) (hg:s₁.gens=#[])
  (ha:s₁.heap.get? a=some { cls := .type "list",data := .seq vs.toArray }) (hi:IntsAre vs ns) (hl:ns.length≤sizeLine) (hr:Room k callerA)
  (F:∀ base:Heap,K.In base→base.Ns mainGlobals mg→FnOk P w K mg base CX k fa fd [x] sp) (hbind:∀ (s:Shared) (u:Value),BindsTo s fd ⟨[u],[]⟩ [(x,u)])
  (hsp:∀ H:Hp,aCi H→SqL K H a (ns.map V.int)→sp [.ref a] H (fun v _=>v = .bl true) fun _ _ _=>False)
  (hCX:∀ H e s',CX [] H s₁ (fun _ _ _=>False) e s'→False) :
  codeAny (model P w) callerA (.call (.ref fa) ⟨[.ref a],[]⟩) (fun r s'=>r = .ok (.ret (.bool true))∧OldK s₁.heap s'.heap∧s'.os=s₁.os∧AllBare s'.gens) s₁:=by
 have rv:=pC hi
 have lenV:=hi.length
 have core:∀ H:Hp,aCi H→SqL K H a (ns.map V.int)→HOk P w H s₁.heap→(∀ b,H b≠none→b=a)→(H a≠none→K.lookup a=none) →
   codeAny (model P w) callerA (.call (.ref fa) ⟨[.ref a],[]⟩) (fun r s'=>r = .ok (.ret (.bool true))∧OldK s₁.heap s'.heap∧s'.os=s₁.os∧AllBare s'.gens) s₁:=by
  intro H hO hS hok hA hK
  have base_of:∀ {b:Addr} {o:Obj},s₁.heap.get? b=some o→H b=none→(wP s₁.heap H).get? b=some o:=fun e n=>yL e n
  have noA:∀ {b:Addr} {o:Obj} {es:Array DictEntry} {ep:Nat},s₁.heap.get? b=some o→o.data = .dict es ep→H b=none:=fun {b o es ep} e d=>by
   cases q:H b with
   | none=>rfl
   | some u=>
    have e':b=a:=hA b (by rw [q];simp)
    subst e'
    rw [ha] at e;cases e
    have d':Data.seq vs.toArray _=Data.dict es ep:=d
    cases d'
  have nsK:∀ {b:Addr} {m:Str→Option Value},s₁.heap.Ns b m→(wP s₁.heap H).Ns b m:=fun {b m} ⟨o,es,ep,e,d,r⟩=>⟨o,es,ep,base_of e (noA e d),d,r⟩
  have hKb:K.In (wP s₁.heap H):=fun b o e=>base_of (KX b o e) (by
   cases q:H b with
   | none=>rfl
   | some u=>
    have e':b=a:=hA b (by rw [q];simp)
    subst e'
    rw [hK (by rw [q];simp)] at e;cases e)
  have hM:Mod K mg (wP s₁.heap H):=⟨hKb,nsK hns,⟨mb,nsK hb,hbb⟩,let ⟨mc,h1,h2⟩:=hlim;⟨mc,nsK h1,h2⟩⟩
  have e0:aBS P w K mg (wP s₁.heap H) callerA [] s₁ H:=⟨rfl,hM,fun b o e=>aAa e,Nat.le_of_eq (vR _ _),trivial,fun b hb=>absurd (show b∈([]:List Addr) from hb) (by simp),hok, .of_eq hg⟩
  refine codeAny_mono ((F _ hKb (nsK hns)).run callerA [] s₁ H ⟨[.ref a],[]⟩ [.ref a] [.ref a] _ _ hr e0 (hbind s₁ (.ref a)) (.cons rfl .nil) (hsp H hO hS)) fun r s' h=>?_
  cases r with
  | error e=>exact (hCX H e s' h).elim
  | ok fl=>
   cases fl with
   | next=>exact False.elim h
   | brk=>exact False.elim h
   | cont=>exact False.elim h
   | ret u=>
    obtain ⟨v,H',os,bare,un,hok',r',q⟩:=h
    have q':v = .bl true:=q
    subst q'
    obtain rfl:u=Value.bool true:=r'
    refine ⟨rfl,OldK.of_keep fun b o e=>?_,os,bare⟩
    cases q:H b with
    | none=>exact un.keep b o e q (by intro z;exact absurd (show b∈([]:List Addr) from z) (by simp)) (by simp)
    | some u=>
     rcases hO b with z | ⟨ob,xs,z⟩
     ·rw [q] at z;cases z
     ·have z2:=un.frzs b ob _ z
      obtain ⟨e1,_⟩:=hok b _ z
      obtain ⟨e2,_⟩:=hok' b _ z2
      rw [e] at e1;cases e1
      exact e2
 cases hk:K.lookup a with
 | some o=>
  have e:=KX a o hk
  rw [ha] at e
  cases e
  refine core (fun _=>none) (fun _ => .inl rfl) (.inr ⟨_,vs.toArray,_,hk,rfl,rfl,rfl,by rw [List.size_toArray,lenV];exact hl,by simpa using rv⟩) (fun b u z=>by have z':(none:Option HO)=some u:=z;cases z') (fun b z=>absurd rfl z) fun z=>absurd rfl z
 | none=>
  refine core (fun b=>if b=a then some (.frz { cls := .type "list",data := .seq vs.toArray } (.lst (ns.map V.int))) else none) (fun b=>?_) (.inl (.inr ⟨{ cls := .type "list",data := .seq vs.toArray },if_pos rfl⟩)) (fun b u z=>?_) (fun b z=>?_) fun _=>hk
  ·by_cases hb:b=a
   ·exact .inr ⟨_,_,if_pos hb⟩
   ·exact .inl (if_neg hb)
  ·by_cases hb:b=a
   ·have z':=(if_pos hb).symm.trans z
    cases z'
    subst hb
    exact ⟨ha,by rw [List.length_map];exact hl,vs,_,rv,ha⟩
   ·have z':=(if_neg hb).symm.trans z
    cases z'
  ·by_cases hb:b=a
   ·exact hb
   ·exact absurd (if_neg hb) z
end L2
namespace L2
open PySem PySem.Spec PyProof.Rows
theorem aAk {l:PySem.W.OpenLaw}{n k:Nat}{q:Program}{loose:List Str}{XP:(Str→Option Value)→Heap→Prop}{YP:World→Heap→Prop}{d:DefRec}{K:Params→PySem.W.Frag}{CX:World→CXT}{sp:World→Sp}{x:Str}
  (hn:l.most=some n) (hn2:n≤sizeLine) (hdf:d.params.defaults=[]) (hr:Room k callerA)
  (hY:∀ (w:World) (h:Heap),YP w h→(K w.params).In h)
  (F:∀ (w:World) (mg:Str→Option Value) (fa:Addr) (h:Heap),(K w.params).In h→h.Ns mainGlobals mg→mg d.name=some (.ref fa) →
   ∃ fd:FuncData,(∀ (s:Shared) (u:Value),BindsTo s fd ⟨[u],[]⟩ [(x,u)]) ∧
    ∀ base:Heap,(K w.params).In base→base.Ns mainGlobals mg→FnOk l.prog w (K w.params) mg base (CX w) k fa fd [x] (sp w))
  (hsp:∀ (w:World) (H:Hp) (a:Addr) (ns:List Int),ns.length≤n→aCi H→SqL (K w.params) H a (ns.map V.int)→sp w [.ref a] H (fun v _=>v = .bl true) fun _ _ _=>False)
  (hCX:∀ (w:World) (H:Hp) (s:Shared) (e:Value) (s':Shared),CX w [] H s (fun _ _ _=>False) e s'→False) :
  PySem.W.WalkO q loose XP YP l.row.toRowW d [] (fun f vs=>PySem.call f vs):=by
 refine Att.attach_call hn hdf fun w s₀ s₁ mg mb fa o pm cd doc a vs ns G Y ho hd hcd hmg hobj hints hlen hg=>?_
 have KX:=hY w _ Y
 obtain ⟨fd,hb,hF⟩:=F w mg fa _ KX G.T.g hmg
 exact xL KX G.T.g G.T.b G.T.builtins G.T.nolimit hg hobj hints (Nat.le_trans hlen hn2) hr hF hb (fun H hO hS=>hsp w H a ns hlen hO hS) fun H e s'=>hCX w H s₁ e s'
end L2
namespace L2
open PySem PySem.Spec PyProof.Rows
noncomputable def bN (s:Stmt):Arguments:=match s with
 | .FunctionDef _ a _ _ _ _ _ _ _ _=>a
 | _=>{ posonlyargs:=[],args:=[],vararg:=none,kwonlyargs:=[],kw_defaults:=[],kwarg:=none,defaults:=[] }
noncomputable def bK (s:Stmt):List Stmt:=match s with
 | .FunctionDef _ _ b _ _ _ _ _ _ _=>b
 | _=>[]
noncomputable def aK (s:Stmt):Scope:=match s with
 | .FunctionDef _ _ _ _ _ _ sc _ _ _=>sc
 | _=>{ kind := .function,names:=[],isGenerator:=false,isCoroutine:=false }
noncomputable abbrev CX0:CXT:=fun _ _ _ _ _ _=>False
noncomputable abbrev E0:XK:=fun _ _ _=>False
theorem aCm {X:Cx}:iR CX0 X E0:=fun _ _ _ _ _ _ _ h=>h.elim
structure Fun (K:PySem.W.Frag)(x qual:Str)(st:Stmt)(f:Addr)(fd:FuncData):Prop where
 ex:∃ (oc:Value) (od:Option Addr) (kV doc pm:Value) (an:Option Addr) (cdv ct:Value) (osl:Array (Option Value)),
  fd=PySem.W.fnOf x qual (bN st) (bK st) (aK st) .none kV doc pm an cdv ct∧K.lookup f=some ⟨oc,od, .func fd,osl⟩∧PySem.W.codeIn K cdv qual=true
 kp:PySem.W.keepIn K (.ref f)=true
section
variable {P:Program}{w:World}{K:PySem.W.Frag}{mg:Str→Option Value}{base:Heap}
theorem Fun.ok {x qual:Str}{st:Stmt}{f:Addr}{fd:FuncData}{N ps:List Str}{k:Nat}{sp:Sp}(F:Fun K x qual st f fd)(S:bP N ps (aK st))(len:∀ vs H Q E,sp vs H Q E→vs.length=ps.length)
  (hbody:∀ (cdv:Value) (A:Around) (outer:List Env) (s:Shared) (H:Hp) (vs:List V) (Q:VK) (E:XK),Room k (A.deeper (envOfC qual (aK st) s.heap.objs.size f cdv))→sp vs H Q E →
   ∃ t,PSs (rN CX0 P w K mg base N qual (aK st) f cdv A outer s H E).nox (bK st) t∧t { nx:=fun _ H'=>Q .non H',rt:=Q } (bQ N vs) H):FnOk P w K mg base CX0 (k+1) f fd ps sp:=by
 obtain ⟨oc,od,kV,doc,pm,an,cdv,ct,osl,rfl,lk,hcd⟩:=F.ex
 refine aAY lk hcd S len fun A outer s H vs Q E hr hsp=>?_
 obtain ⟨t,h,q⟩:=hbody cdv A outer s H vs Q E hr hsp
 exact ⟨t,h.nox,q⟩
theorem Fun.binds {x qual:Str}{st:Stmt}{f:Addr}{fd:FuncData}{ps:List Str}(F:Fun K x qual st f fd)
  (h:∀ (kV doc pm:Value) (an:Option Addr) (cdv ct:Value) (us:List Value),us.length=ps.length→bindArgs (PySem.W.fnOf x qual (bN st) (bK st) (aK st) .none kV doc pm an cdv ct) ⟨us,[]⟩=pure (ps.zip us)):Binds K fd ps []:=by
 obtain ⟨oc,od,kV,doc,pm,an,cdv,ct,osl,rfl,lk,hcd⟩:=F.ex
 exact .all (h kV doc pm an cdv ct)
theorem cR {x qual:Str}{st:Stmt}{f:Addr}{oc:Value}{od an:Option Addr}{osl:Array (Option Value)}{kV doc pm cdv ct:Value}(l:K.lookup f=some ⟨oc,od, .func (PySem.W.fnOf x qual (bN st) (bK st) (aK st) .none kV doc pm an cdv ct),osl⟩)
  (c:PySem.W.codeIn K cdv qual=true) (k:PySem.W.keepIn K (.ref f)=true):Fun K x qual st f (PySem.W.fnOf x qual (bN st) (bK st) (aK st) .none kV doc pm an cdv ct):=⟨⟨oc,od,kV,doc,pm,an,cdv,ct,osl,rfl,l,c⟩,k⟩
end
section
variable {X:Cx}
theorem pv (i:Nat){x:Str}{pos:Pos}(hN:X.N[i]?=some x:=by rfl)(hv:Vis X.env.scope x:=by first | exact Or.inl rfl | exact Or.inr (Or.inl rfl) | exact Or.inr (Or.inr rfl))(hd:(x == ("__debug__" : Str))=false:=by decide)
  (hcd:(x == ("__classdict__" : Str))=false:=by decide):PE X (.Name x pos) (aD i):=aBe hN hv hd hcd
end
theorem aDa {A B:Prop}(h:B):if false=true then A else B:=by
 rw [if_neg Bool.false_ne_true]
 exact h
theorem aAj {c A B:Prop}[Decidable c](h1:c→A)(h2:¬ c→B):if c then A else B:=by
 by_cases h:c
 ·rw [if_pos h]
  exact h1 h
 ·rw [if_neg h]
  exact h2 h
noncomputable def Same (H H':Hp):Prop:=∀ b o,H b=some o→H' b=some o
theorem Same.refl (H:Hp):Same H H:=fun _ _ h=>h
theorem Same.trans {H H1 H2:Hp}(a:Same H H1)(b:Same H1 H2):Same H H2:=fun c o h=>b c o (a c o h)
theorem Same.free {H H':Hp}(e:Same H H'){l:Addr}(h:H' l=Option.none):H l=Option.none:=by
 cases q:H l with
 | none=>rfl
 | some o=>
  rw [e l o q] at h
  cases h
theorem Same.seq {K:PySem.W.Frag}{H H':Hp}{a:Addr}{xs:List V}(e:Same H H')(h:SqL K H a xs):SqL K H' a xs:=by
 rcases h with (h | ⟨o,h⟩) | h
 ·exact .inl (.inl (e _ _ h))
 ·exact .inl (.inr ⟨o,e _ _ h⟩)
 ·exact .inr h
end L2
namespace L2
open PySem PySem.Spec PyProof.Rows
section
variable {κ:Type}[DecidableEq κ]
noncomputable def aBH (kvs:List (κ × V)) (k:κ):Option V:=(kvs.find? fun kv=>decide (kv.1=k)).map (·.2)
noncomputable def aBM (kvs:List (κ × V)) (k:κ) (v:V):List (κ × V):=
 if (kvs.any fun kv=>decide (kv.1=k))=true then kvs.map (fun kv=>if kv.1=k then (kv.1,v) else kv) else kvs++[(k,v)]
theorem KV.length {kvs:List (κ × V)}{vs:List (κ × Value)}(r:KV kvs vs):kvs.length=vs.length:=Paired.length r
end
section
variable {P:Program}{w:World}{H:Hp}{h:Heap}{a:Addr}
end
noncomputable def DGet (H:Hp) (a:Addr) (y:V) (r:Option V):Prop:=
 (∃ kvs k,Rd H a (.dK kvs)∧y=kV k∧r=aBH kvs k)∨∃ kvs k b,Rd H a (.dT kvs)∧y = .ref b∧H b=some (.tup (k.map kV))∧r=aBH kvs k
noncomputable def DPut (H:Hp) (a:Addr) (y v:V) (H':Hp):Prop:=
 (∃ kvs k,H a=some (.dK kvs)∧y=kV k∧kvs.length<sizeLine∧H'=upd H a (.dK (aBM kvs k v))) ∨
 ∃ kvs k b,H a=some (.dT kvs)∧y = .ref b∧H b=some (.tup (k.map kV))∧kvs.length<sizeLine∧H'=upd H a (.dT (aBM kvs k v))
theorem DGet.k {H:Hp}{a:Addr}{kvs:List (Key × V)}{k:Key}(e:H a=some (.dK kvs)):DGet H a (kV k) (aBH kvs k) := .inl ⟨kvs,k, .inl e,rfl,rfl⟩
theorem DGet.t {H:Hp}{a b:Addr}{kvs:List (List Key × V)}{k:List Key}(e:H a=some (.dT kvs))(eb:H b=some (.tup (k.map kV))):DGet H a (.ref b) (aBH kvs k) := .inr ⟨kvs,k,b, .inl e,rfl,eb,rfl⟩
theorem DPut.k {H:Hp}{a:Addr}{kvs:List (Key × V)}{k:Key}{v:V}(e:H a=some (.dK kvs))(hl:kvs.length<sizeLine):DPut H a (kV k) v (upd H a (.dK (aBM kvs k v))) := .inl ⟨kvs,k,e,rfl,hl,rfl⟩
theorem DPut.t {H:Hp}{a b:Addr}{kvs:List (List Key × V)}{k:List Key}{v:V}(e:H a=some (.dT kvs))(eb:H b=some (.tup (k.map kV)))(hl:kvs.length<sizeLine) :
  DPut H a (.ref b) v (upd H a (.dT (aBM kvs k v))) := .inr ⟨kvs,k,b,e,rfl,eb,hl,rfl⟩
section
variable {X:Cx}{pins:List (Addr × Obj)}{σ:St}{H:Hp}{s:Shared}{a:Addr}{y v:V}{u r:Value}{o:Option V}{A:Around}{E:Value→Shared→Prop}
end
section
variable {X:Cx}{pins:List (Addr × Obj)}{σ:St}{H:Hp}{s:Shared}{a:Addr}{kvs:List (Key × V)}{k:Key}{u:Value}{A:Around}{E:Value→Shared→Prop}
end
section
variable {X:Cx}{o i e value:Expr}{pos pos' tpos:Pos}{td ty tv:TE}
end
section
variable {X:Cx}{pos:Pos}
end
section
variable {X:Cx}{pins:List (Addr × Obj)}{σ:St}{H:Hp}{s:Shared}{a:Addr}{y d:V}{u r:Value}{o:Option V}{A:Around}{E:Value→Shared→Prop}
end
section
variable {X:Cx}{o e f:Expr}{apos cpos:Pos}{td ty tx:TE}
end
section
variable {X:Cx}{pins:List (Addr × Obj)}{σ:St}{H:Hp}{s:Shared}{a:Addr}{kvs:List (Key × V)}{A:Around}{E:Value→Shared→Prop}
end
section
variable {X:Cx}{pins:List (Addr × Obj)}{σ:St}{H:Hp}{s:Shared}{a:Addr}{y:V}{u:Value}{A:Around}{E:Value→Shared→Prop}
end
end L2
namespace L2
open PySem PySem.Spec PyProof.Rows
section
variable {X:Cx}
end
end L2
namespace L2
open PySem PySem.Spec PyProof.Rows
section
variable {κ:Type}[DecidableEq κ]
theorem rA:∀ {l:List κ} {k:κ},l.Nodup→¬ k∈l→(l++[k]).Nodup
 | [],k,_,_=>by simp
 | a :: r,k,h,hk=>by
  obtain ⟨h1,h2⟩:=List.nodup_cons.mp h
  show (a :: (r++[k])).Nodup
  refine List.nodup_cons.mpr ⟨fun m=>?_,rA h2 fun m=>hk (List.mem_cons.mpr (Or.inr m))⟩
  rcases List.mem_append.mp m with q | q
  ·exact h1 q
  ·exact hk (List.mem_cons.mpr (Or.inl (List.mem_singleton.mp q).symm))
end
end L2
namespace L2
open PySem PySem.Spec PyProof.Rows
noncomputable def jE (J:It) (g:TG) (tb:TS):TS:=fun D σ H=>∃ W:Nat→Nat→St→Hp→Prop,(∃ m,W 0 m σ H)∧∀ i m σ H,W i m σ H →
 (J.stop i H∧D.nx σ H)∨(J.go i H∧∃ N:St→Hp→Prop,(∀ σ' H',N σ' H'→∃ m',m'<m∧W (i+1) m' σ' H')∧∀ x H',J.yld i H x H'→g x σ H' fun σ2 H2=>tb { D with nx:=N,ct:=N,bk:=D.nx } σ2 H2)
noncomputable def oR (elt:Expr) (gens:List Comprehension) (scope:Scope) (pos:Pos) (d:Nat) (acc:Value) (env:Env) (k:Sem Fin):Sem Fin:=
 match gens[d+1]? with
 | some g'=>eval g'.iter env >>= fun x=>standAt g'.iter.pos >>= fun _=>foldedSetIterable g'.iter env x >>= fun x=>holding [x] (pyIter x) >>= fun i=>
   runOwn (.compStart (.ListComp elt gens scope pos) (d+1) i acc env) env >>= fun _=>k
 | none=>(eval elt env >>= fun x=>call (.builtin "list.append") [acc,x] >>= fun _=>pure ()) >>= fun _=>k
theorem qH {elt target iter:Expr}{ifs:List Expr}{gens:List Comprehension}{scope:Scope}{pos:Pos}{d:Nat}(it acc:Value)(env:Env)(hg:gens[d]?=some ⟨target,iter,ifs,0⟩)
  (hn:∀ g',gens[d+1]?=some g'→g'.is_async=0) :
  compTurn (.ListComp elt gens scope pos) d it acc env=(standAt iter.pos >>= fun _=>pyNext it >>= fun r=>match r with
   | none=>pure (.done .next)
   | some v=>letOwnedTupleGo target it v >>= fun _=>assign target env v >>= fun _=>
    (forIn ifs true fun c r=>if r=true then do let ok ← isTrue c env (eval c env);pure (ForInStep.yield ok) else pure (ForInStep.yield r)) >>= fun ok=>
     if ok=true then oR elt gens scope pos d acc env (again (.compLoop (.ListComp elt gens scope pos) d it acc env))
     else again (.compLoop (.ListComp elt gens scope pos) d it acc env)):=by
 unfold compTurn oR
 simp only [hg]
 cases h:gens[d+1]? with
 | none=>rfl
 | some g'=>
  obtain ⟨t',i',f',a'⟩:=g'
  have e:a'=0:=hn _ h
  subst e
  rfl
noncomputable def jR:List TT→TS→TS
 | [],tb=>tb
 | c :: r,tb=>eM c (jR r tb) aL
inductive PTs (X:Cx):List Expr→List TT→Prop
 | nil:PTs X [] []
 | cons {c:Expr} {cs:List Expr} {t:TT} {ts:List TT}:PT X c t→PTs X cs ts→PTs X (c :: cs) (t :: ts)
section
variable {X:Cx}
theorem qI {cs:List Expr}{s:Shared}{Q:Bool→Shared→Prop}{E:Value→Shared→Prop}(h:Q false s) :
  wpAny (model X.prog X.w) X.A (forIn cs false fun c r=>if r=true then do let ok ← isTrue c X.env (eval c X.env);pure (ForInStep.yield ok) else pure (ForInStep.yield r)) Q E s:=by
 induction cs with
 | nil=>rw [List.forIn_nil];exact wpAny_pure h
 | cons c cs ih=>
  rw [List.forIn_cons,if_neg Bool.false_ne_true]
  exact wpAny_bind (wpAny_pure ih)
theorem oO {tb:TS}{D:lO}{pins:List (Addr × Obj)}:∀ {cs:List Expr} {ts:List TT},PTs X cs ts→∀ {s:Shared} {σ:St} {H:Hp},Inv X pins σ H s→jR ts tb D σ H →
  wpAny (model X.prog X.w) X.A (forIn cs true fun c r=>if r=true then do let ok ← isTrue c X.env (eval c X.env);pure (ForInStep.yield ok) else pure (ForInStep.yield r))
   (fun ok s'=>∃ H',Inv X pins σ H' s'∧if ok=true then tb D σ H' else D.nx σ H') X.xe s
 | _,_, .nil,s,σ,H,I,h=>by rw [List.forIn_nil];exact wpAny_pure ⟨H,I,by rw [if_pos rfl];exact h⟩
 | _,_, .cons (cs:=cs) hc hr,s,σ,H,I,h=>by
  rw [List.forIn_cons,if_pos rfl]
  refine wpAny_bind (wpAny_bind (thn (hc pins s σ H _ I h) fun b s1 ⟨H1,I1,q1⟩=>wpAny_pure ?_))
  cases b with
  | true=>
   rw [if_pos rfl] at q1
   exact oO hr I1 q1
  | false=>
   rw [if_neg Bool.false_ne_true] at q1
   exact qI ⟨H1,I1,by rw [if_neg Bool.false_ne_true];exact q1⟩
end
noncomputable def PB (X:Cx) (elt:Expr) (gens:List Comprehension) (scope:Scope) (pos:Pos) (d:Nat) (acc:Addr) (t:TS):Prop:=
 ∀ (pins:List (Addr × Obj)) (s:Shared) (σ:St) (H:Hp) (D:lO) (k:Sem Fin) (Q:Fin→Shared→Prop) (E:Value→Shared→Prop),Inv X pins σ H s→t D σ H →
  (∀ s' σ' H',Inv X pins σ' H' s'→D.nx σ' H'→wpAny (model X.prog X.w) X.A k Q E s')→wpAny (model X.prog X.w) X.A (oR elt gens scope pos d (.ref acc) X.env k) Q E s
noncomputable def jT (te:TE) (acc:Addr):TS:=fun D σ H=>te σ H fun x H1=>∃ xs,H1 acc=some (.lst xs)∧xs.length<sizeLine∧D.nx σ (upd H1 acc (.lst (xs++[x])))
section
variable {X:Cx}
theorem gA {elt:Expr}{gens:List Comprehension}{scope:Scope}{pos:Pos}{d:Nat}{acc:Addr}{te:TE}(hx:X.xe=fun _ _=>False)(he:PE X elt te)(hl:gens[d+1]?=none):PB X elt gens scope pos d acc (jT te acc):=by
 intro pins s σ H D k Q E I h hk
 unfold oR
 rw [hl]
 refine wpAny_bind (wpAny_bind (wpAny_mono (he pins s σ H _ I h) (fun v s1 ⟨x,H1,I1,r1,xs,ha,hz,q⟩=>?_) fun _ _ z=>by rw [hx] at z;exact z.elim))
 have hm:=fP (X:=X) pins s1 σ H1 (.ref acc) [x] (.ref acc) [v] (fun v H'=>v = .non∧D.nx σ H') I1 rfl (.cons r1 .nil) ⟨acc,xs,x,rfl,rfl,ha,hz,rfl,q⟩
 refine wpAny_bind (wpAny_mono hm (fun _ s2 ⟨x2,H2,I2,r2,_,q2⟩=>wpAny_pure (hk s2 σ H2 I2 q2)) fun _ _ z=>by rw [hx] at z;exact z.elim)
theorem pZ {elt target iter:Expr}{ifs:List Expr}{gens:List Comprehension}{scope:Scope}{pos:Pos}{d:Nat}{acc it:Addr}{fp:List Addr}{tn:Nat→Heap→Prop}{J:It}{g:TG}{ts:List TT}{tb:TS}{D:lO}{pins:List (Addr × Obj)}{s:Shared}{σ:St}{H:Hp}
  (hx:X.xe=fun _ _=>False) (hc:X.calm=true) (hgd:gens[d]?=some ⟨target,iter,ifs,0⟩) (hn:∀ g',gens[d+1]?=some g'→g'.is_async=0)
  (hg:PG X target g) (hts:PTs X ifs ts) (hb:PB X elt gens scope pos d acc tb)
  (T:aAx X.prog X.w X.K target J fp it tn) (I:Inv X pins σ H s) (st:tn 0 s.heap) (hf:∀ b∈fp,tF X pins H b) (h:jE J g (jR ts tb) D σ H) :
  codeAny (model X.prog X.w) X.A (.compStart (.ListComp elt gens scope pos) d (.ref it) (.ref acc) X.env) (fun r s'=>∃ f,r = .ok f∧∃ σ' H',Inv X pins σ' H' s'∧D.nx σ' H') s:=by
 have stat:∀ {H':Hp},(∀ b∈fp,H' b=none)→∀ b∈fp,tF X pins H' b:=fun hn b hb=>⟨hn b hb,(hf b hb).2⟩
 obtain ⟨W,⟨m0,w0⟩,turn⟩:=h
 have E0:∀ (e:Value) (s':Shared),X.xe e s'→notedBy (model X.prog X.w) X.A X.env (fun e s'=>∃ f,(Except.error e:Result) = .ok f∧∃ σ' H',Inv X pins σ' H' s'∧D.nx σ' H') e s':=fun e s' z=>by rw [hx] at z;exact z.elim
 have loop:codeAny (model X.prog X.w) X.A (.compLoop (.ListComp elt gens scope pos) d (.ref it) (.ref acc) X.env) (fun r s'=>∃ f,r = .ok f∧∃ σ' H',Inv X pins σ' H' s'∧D.nx σ' H') s:=by
  refine codeAny_loop rfl (fun n s'=>∃ i σ' H',Inv X pins σ' H' s'∧tn i s'.heap∧(∀ b∈fp,H' b=none)∧W i n σ' H') ?_ m0 ⟨0,σ,H,I,st,fun b hb=>(hf b hb).1,w0⟩
  rintro n s3 ⟨i,σ3,H3,I3,st3,fr3,w3⟩
  show wpAny _ X.A ((compTurn (.ListComp elt gens scope pos) d (.ref it) (.ref acc) X.env).onRaise (fun x=>do noteFrame x X.env;theTreesLotGoes x)) _ _ s3
  refine wpAny_noted ?_
  rw [qH _ _ _ hgd hn]
  refine wpAny_bind (wpAny_standAt (wpAny_bind ?_))
  rcases turn i n σ3 H3 w3 with ⟨stop,qn⟩ | ⟨go,N,hN,step⟩
  ·refine wpAny_mono (T.done X rfl rfl rfl hc i pins s3 σ3 H3 (fun _ _=>False) I3 (stat fr3) st3 stop) (fun r s4 ⟨hr,I4⟩=>?_) (fun _ _ z=>z.elim)
   subst hr
   exact wpAny_pure ⟨.next,rfl,σ3,H3,I4,qn⟩
  ·refine wpAny_mono (T.item X rfl rfl rfl hc i pins s3 σ3 H3 (fun _ _=>False) I3 (stat fr3) st3 go) (fun r s4 ⟨u,hr,h4⟩=>?_) (fun _ _ z=>z.elim)
   subst hr
   refine wpAny_bind (wpAny_mono h4 (fun _ s5 ⟨x,H5,I5,r5,y5,st5,fr5⟩=>?_) (fun _ _ z=>z.elim))
   have I5':=I5.pinned (stat fr5) (T.obj _ _ st5)
   refine wpAny_bind (wpAny_mono (hg _ s5 σ3 H5 x u _ I5' r5 (step x H5 y5)) (fun _ s6 ⟨σ6,H6,I6,q6⟩=>?_) E0)
   refine wpAny_bind (wpAny_mono (oO hts I6 q6) (fun ok s7 ⟨H7,I7,q7⟩=>?_) E0)
   have again:∀ {σ7:St} {H7:Hp} {s7:Shared},Inv X (pins++pQ fp s5.heap) σ7 H7 s7→N σ7 H7→∃ m,m<n∧∃ i σ' H',Inv X pins σ' H' s7∧tn i s7.heap∧(∀ b∈fp,H' b=none)∧W i m σ' H':=fun {σ7 H7 s7} I7 n7=>by
    obtain ⟨m',hm,w7⟩:=hN σ7 H7 n7
    refine ⟨m',hm,i+1,σ7,H7,I7.unpinned,T.keep _ _ _ st5 fun b hb o e=>(I7.pin (b,o) (List.mem_append_right _ (List.mem_append_right _ (gI hb e)))).1,fun b hb=>?_,w7⟩
    obtain ⟨o,e,d⟩:=T.obj _ _ st5 b hb
    exact (I7.pin (b,o) (List.mem_append_right _ (List.mem_append_right _ (gI hb e)))).2.1
   cases ok with
   | false=>
    rw [if_neg Bool.false_ne_true] at q7 ⊢
    exact wpAny_pure ⟨rfl,again I7 q7⟩
   | true=>
    rw [if_pos rfl] at q7 ⊢
    exact hb _ s7 σ6 H7 _ _ _ _ I7 q7 fun s8 σ8 H8 I8 q8=>wpAny_pure ⟨rfl,again I8 q8⟩
 refine codeAny_of_tree ?_
 show wpAny _ _ ((compStart (.ListComp elt gens scope pos) d (.ref it) (.ref acc) X.env).onRaise (fun x=>do noteFrame x X.env;standAt theWindowsPlace)) _ _ s
 refine wpAny_notedAt ?_
 have hcl:clausesOf (.ListComp elt gens scope pos)=gens:=rfl
 unfold compStart
 rw [hcl,hgd]
 show wpAny _ _ (ask >>= _) _ _ s
 refine wpAny_bind (wpAny_askSetting (wpAny_ite ?_))
 split
 ·first
   | exact wpAny_bind (wpAny_pure (wpAny_pure (And.intro rfl loop)))
   | exact wpAny_pure (And.intro rfl loop)
 ·refine wpAny_bind (wpAny_rule ?_)
  show wpAny _ _ (standAt iter.pos >>= _) _ _ s
  exact wpAny_bind (wpAny_standAt (wpAny_bind (T.self X.A 0 s _ _ st (wpAny_pure (And.intro rfl loop)))))
theorem aAl {elt target iter:Expr}{ifs:List Expr}{gens:List Comprehension}{scope:Scope}{pos:Pos}{d:Nat}{acc:Addr}{wi:TI}{g:TG}{ts:List TT}{tb:TS}
  (hx:X.xe=fun _ _=>False) (hc:X.calm=true) (hgd:gens[d+1]?=some ⟨target,iter,ifs,0⟩) (hn:∀ g',gens[d+2]?=some g'→g'.is_async=0)
  (hi:PI X target iter wi) (hg:PG X target g) (hts:PTs X ifs ts) (hb:PB X elt gens scope pos (d+1) acc tb) (hs:∀ x,foldedSetIterable iter X.env x=pure x:=by intro _;rfl) :
  PB X elt gens scope pos d acc (qN wi g (jR ts tb)):=by
 intro pins s σ H D k Q E I h hk
 unfold oR
 rw [hgd]
 have EX:∀ (e:Value) (s':Shared),X.xe e s'→E e s':=fun e s' z=>by rw [hx] at z;exact z.elim
 refine wpAny_bind (wpAny_mono (hi pins s σ H (fun J H1=>jE J g (jR ts tb) D σ H1) I h) (fun v s1 h1=>?_) EX)
 refine wpAny_bind (wpAny_standAt (wpAny_bind (wpAny_of_eq (hs v) (wpAny_bind (wpAny_holding (wpAny_mono h1 (fun itv s2 h2=>?_) EX))))))
 obtain ⟨it,fp,tn,J,H2,e,I2,T,st2,f2,q2⟩:=h2
 subst e
 refine wpAny_bind (wpAny_runOwn (codeAny_mono (pZ hx hc hgd hn hg hts hb T I2 st2 f2 q2) fun r s3 ⟨f,hr,σ3,H3,I3,q3⟩=>?_))
 subst hr
 exact hk s3 σ3 H3 I3 q3
end
end L2
namespace L2
open PySem PySem.Spec PyProof.Rows
noncomputable def dS (cells:List (Str × Addr)):List (Str × NameKind)→List (Str × Addr)→List (Str × Addr)
 | [],acc=>acc
 | (n,k) :: r,acc=>if k == .free then dS cells r ((n,(cells.lookup n).getD 0) :: acc) else dS cells r acc
theorem mG {scope:Scope}{env:Env}(h:∀ x∈scope.names,x.2 = .free→(env.cells.lookup x.1).isSome=true):closureFor scope env=pure (dS env.cells scope.names []):=by
 have go:∀ (names:List (Str × NameKind)) (acc:List (Str × Addr)),(∀ x∈names,x.2 = .free→(env.cells.lookup x.1).isSome=true) →
   (forIn names acc fun x (r:List (Str × Addr))=>if x.2 == NameKind.free then (do let c ← cellOf env x.1;pure (ForInStep.yield ((x.1,c) :: r))) else pure (ForInStep.yield r):Sem (List (Str × Addr)))=pure (dS env.cells names acc):=by
  intro names
  induction names with
  | nil=>intro acc _;rw [List.forIn_nil];rfl
  | cons x r ih=>
   intro acc hh
   obtain ⟨n,k⟩:=x
   rw [List.forIn_cons]
   unfold dS
   cases hk:k == NameKind.free with
   | false=>
    rw [if_neg Bool.false_ne_true,if_neg Bool.false_ne_true]
    exact ih acc fun y hy=>hh y (List.mem_cons_of_mem _ hy)
   | true=>
    rw [if_pos rfl,if_pos rfl]
    obtain ⟨c,hc⟩:=Option.isSome_iff_exists.mp (hh (n,k) List.mem_cons_self (by simpa using hk))
    have e:cellOf env n=pure c:=by
     unfold cellOf
     rw [show env.cells.lookup n=some c from hc]
    show (do let x ← (do let c ← cellOf env n;pure (ForInStep.yield ((n,c) :: acc)));_)=_
    rw [e]
    rw [show ((env.cells.lookup n).getD 0)=c by rw [show env.cells.lookup n=some c from hc];rfl]
    exact ih ((n,c) :: acc) fun y hy=>hh y (List.mem_cons_of_mem _ hy)
 have:=go scope.names [] h
 unfold closureFor
 refine Eq.trans ?_ (congrArg (fun m=>m >>= fun r=>pure r) this |>.trans rfl)
 rfl
theorem kT {cells:List (Str × Addr)}{x:Str}:∀ (names:List (Str × NameKind)) (acc:List (Str × Addr)),(x,NameKind.free)∉names→(dS cells names acc).lookup x=acc.lookup x
 | [],_,_=>rfl
 | (n,k) :: r,acc,h=>by
  unfold dS
  have hr:(x,NameKind.free)∉r:=fun z=>h (List.mem_cons_of_mem _ z)
  cases hk:k == NameKind.free with
  | false=>rw [if_neg Bool.false_ne_true];exact kT r acc hr
  | true=>
   rw [if_pos rfl,kT r _ hr,List.lookup_cons]
   have e:k = .free:=by simpa using hk
   have ne:(x == n)=false:=by
    cases q:x == n with
    | false=>rfl
    | true=>exact absurd (by rw [beq_iff_eq.mp q,e];exact List.mem_cons_self) h
   rw [ne]
theorem kI {cells:List (Str × Addr)}{x:Str}{c:Addr}(hc:cells.lookup x=some c):∀ (names:List (Str × NameKind)) (acc:List (Str × Addr)),(x,NameKind.free)∈names→(dS cells names acc).lookup x=some c
 | [],_,h=>by simp at h
 | (n,k) :: r,acc,h=>by
  unfold dS
  by_cases hr:(x,NameKind.free)∈r
  ·cases hk:k == NameKind.free with
   | false=>rw [if_neg Bool.false_ne_true];exact kI hc r acc hr
   | true=>rw [if_pos rfl];exact kI hc r _ hr
  ·rcases List.mem_cons.mp h with e | e
   ·cases e
    rw [if_pos (by decide),kT r _ hr,List.lookup_cons]
    simp [hc]
   ·exact absurd e hr
theorem iX {cells:List (Str × Addr)}{x:Str}{c:Addr}:∀ (names:List (Str × NameKind)) (acc:List (Str × Addr)),(∀ y∈names,y.2 = .free→(cells.lookup y.1).isSome=true)→(x,c)∈dS cells names acc →
  (x,c)∈acc∨((x,NameKind.free)∈names∧cells.lookup x=some c)
 | [],_,_,h => .inl h
 | (n,k) :: r,acc,hh,h=>by
  unfold dS at h
  have hr:∀ y∈r,y.2 = .free→(cells.lookup y.1).isSome=true:=fun y hy=>hh y (List.mem_cons_of_mem _ hy)
  cases hk:k == NameKind.free with
  | false=>
   rw [hk,if_neg Bool.false_ne_true] at h
   exact (iX r acc hr h).imp id fun z=>⟨List.mem_cons_of_mem _ z.1,z.2⟩
  | true=>
   rw [hk,if_pos rfl] at h
   have ek:k = .free:=by simpa using hk
   rcases iX r _ hr h with z | z
   ·rcases List.mem_cons.mp z with z | z
    ·cases z
     obtain ⟨d,hd⟩:=Option.isSome_iff_exists.mp (hh (x,k) List.mem_cons_self ek)
     exact .inr ⟨by rw [ek];exact List.mem_cons_self,by rw [hd];rfl⟩
    ·exact .inl z
   ·exact .inr ⟨List.mem_cons_of_mem _ z.1,z.2⟩
theorem gZ {cells:List (Str × Addr)}(inj:∀ x y c,cells.lookup x=some c→cells.lookup y=some c→x=y):∀ (names:List (Str × NameKind)) (acc:List (Str × Addr)),(names.map (·.1)).Nodup →
  (∀ y∈names,y.2 = .free→(cells.lookup y.1).isSome=true)→(∀ p∈acc,cells.lookup p.1=some p.2∧p.1∉names.map (·.1))→(acc.Pairwise fun x y=>x.2≠y.2)→(dS cells names acc).Pairwise fun x y=>x.2≠y.2
 | [],_,_,_,_,h=>h
 | (n,k) :: r,acc,nd,hh,ha,h=>by
  unfold dS
  have hr:∀ y∈r,y.2 = .free→(cells.lookup y.1).isSome=true:=fun y hy=>hh y (List.mem_cons_of_mem _ hy)
  obtain ⟨n1,n2⟩:=List.nodup_cons.mp nd
  cases hk:k == NameKind.free with
  | false=>
   rw [if_neg Bool.false_ne_true]
   exact gZ inj r acc n2 hr (fun p hp=>⟨(ha p hp).1,fun z=>(ha p hp).2 (List.mem_cons_of_mem _ z)⟩) h
  | true=>
   rw [if_pos rfl]
   have ek:k = .free:=by simpa using hk
   obtain ⟨d,hd⟩:=Option.isSome_iff_exists.mp (hh (n,k) List.mem_cons_self ek)
   have hd':cells.lookup n=some d:=hd
   refine gZ inj r _ n2 hr (fun p hp=>?_) (List.pairwise_cons.mpr ⟨fun p hp e=>?_,h⟩)
   ·rcases List.mem_cons.mp hp with e | hp
    ·subst e;exact ⟨by rw [hd'];rfl,n1⟩
    ·exact ⟨(ha p hp).1,fun z=>(ha p hp).2 (List.mem_cons_of_mem _ z)⟩
   ·rw [hd'] at e
    have e':d=p.2:=e
    have:n=p.1:=inj n p.1 d hd' (by rw [e'];exact (ha p hp).1)
    exact (ha p hp).2 (by rw [← this];exact List.mem_cons_self)
theorem eI {x:Str}{c:Addr}:∀ (names:List (Str × NameKind)) (n:Nat) (acc:List (Str × Addr)),(x,c)∈cellsFrom n names acc→(n≤c∧(x,NameKind.cell)∈names)∨(x,c)∈acc
 | [],_,_,h => .inr h
 | (y,k) :: r,n,acc,h=>by
  unfold cellsFrom at h
  cases hk:k == NameKind.cell with
  | false=>
   rw [hk,if_neg Bool.false_ne_true] at h
   exact (eI r n acc h).imp (fun z=>⟨z.1,List.mem_cons_of_mem _ z.2⟩) id
  | true=>
   rw [hk,if_pos rfl] at h
   have ek:k = .cell:=by simpa using hk
   rcases eI r (n+1) _ h with z | z
   ·exact .inl ⟨by omega,List.mem_cons_of_mem _ z.2⟩
   ·rcases List.mem_cons.mp z with z | z
    ·cases z
     exact .inl ⟨Nat.le_refl _,by rw [ek];exact List.mem_cons_self⟩
    ·exact .inr z
theorem dU:∀ (names:List (Str × NameKind)) (n:Nat) (acc:List (Str × Addr)),(∀ p∈acc,p.2<n)→(acc.Pairwise fun x y=>x.2≠y.2)→(cellsFrom n names acc).Pairwise fun x y=>x.2≠y.2
 | [],_,_,_,h=>h
 | (y,k) :: r,n,acc,hl,h=>by
  unfold cellsFrom
  cases hk:k == NameKind.cell with
  | false=>rw [if_neg Bool.false_ne_true];exact dU r n acc hl h
  | true=>
   rw [if_pos rfl]
   refine dU r (n+1) _ (fun p hp=>?_) (List.pairwise_cons.mpr ⟨fun p hp e=>?_,h⟩)
   ·rcases List.mem_cons.mp hp with e | hp
    ·subst e;exact Nat.lt_succ_self _
    ·exact Nat.lt_succ_of_lt (hl p hp)
   ·have e':n=p.2:=e
    exact Nat.lt_irrefl _ (e' ▸ hl p hp)
theorem fA {x:Str}:∀ (names:List (Str × NameKind)) (n:Nat) (acc:List (Str × Addr)),(x,NameKind.cell)∉names→(cellsFrom n names acc).lookup x=acc.lookup x
 | [],_,_,_=>rfl
 | (y,k) :: r,n,acc,h=>by
  unfold cellsFrom
  have hr:(x,NameKind.cell)∉r:=fun z=>h (List.mem_cons_of_mem _ z)
  cases hk:k == NameKind.cell with
  | false=>rw [if_neg Bool.false_ne_true];exact fA r n acc hr
  | true=>
   rw [if_pos rfl,fA r _ _ hr,List.lookup_cons]
   have e:k = .cell:=by simpa using hk
   have ne:(x == y)=false:=by
    cases q:x == y with
    | false=>rfl
    | true=>exact absurd (by rw [beq_iff_eq.mp q,e];exact List.mem_cons_self) h
   rw [ne]
theorem dX {x:Str}{c:Addr}:∀ (names:List (Str × NameKind)) (h:Heap) (acc:List (Str × Addr)),(x,c)∈cellsFrom h.objs.size names acc→(x,c)∈acc∨(pushCells h names).IsCell c none
 | [],_,_,hm => .inl hm
 | (y,k) :: r,h,acc,hm=>by
  unfold cellsFrom at hm
  unfold pushCells
  cases hk:k == NameKind.cell with
  | false=>
   rw [hk,if_neg Bool.false_ne_true] at hm
   rw [if_neg Bool.false_ne_true]
   exact dX r h acc hm
  | true=>
   rw [hk,if_pos rfl] at hm
   rw [if_pos rfl]
   have:=dX (x:=x) (c:=c) r (h.push { cls := .type "cell",data := .cell none }) ((y,h.objs.size) :: acc) (by rw [Heap.size_push];exact hm)
   rcases this with z | z
   ·rcases List.mem_cons.mp z with z | z
    ·cases z
     exact .inr ⟨_,pushCells_keeps r _ _ _ (Heap.get?_push_size _ rfl),rfl⟩
    ·exact .inl z
   ·exact .inr z
theorem cN {x:Str}{k:NameKind}:∀ {names:List (Str × NameKind)},(names.map (·.1)).Nodup→(x,k)∈names→names.lookup x=some k
 | [],_,h=>by simp at h
 | (y,j) :: r,nd,h=>by
  obtain ⟨n1,n2⟩:=List.nodup_cons.mp nd
  rw [List.lookup_cons]
  rcases List.mem_cons.mp h with e | e
  ·cases e;simp
  ·have ne:(x == y)=false:=by
    cases q:x == y with
    | false=>rfl
    | true=>exact absurd (List.mem_map.mpr ⟨(x,k),e,beq_iff_eq.mp q⟩) n1
   rw [ne]
   exact cN n2 e
theorem iW {scope:Scope}{env:Env}{x:Str}{k:NameKind}:(relabel scope env).names.lookup x=some k→(k = .cell∨k = .free)→scope.names.lookup x=some .cell∨scope.names.lookup x=some .free:=by
 unfold relabel
 show (scope.names.map _).lookup x=some k→_
 induction scope.names with
 | nil=>intro h;simp at h
 | cons p r ih=>
  obtain ⟨n,j⟩:=p
  intro h hk
  rw [List.map_cons] at h
  rw [List.lookup_cons]
  by_cases hc:(j == NameKind.free && env.scope.kind == .function && env.kindOf n == some .cell)=true
  ·simp only [hc,if_true] at h
   rw [List.lookup_cons] at h
   cases q:x == n with
   | true=>
    have:j = .free:=by
     have:=(Bool.and_eq_true_iff.mp (Bool.and_eq_true_iff.mp hc).1).1
     simpa using this
    simp [this]
   | false=>rw [q] at h;simpa using ih h hk
  ·simp only [hc,Bool.false_eq_true,if_false] at h
   rw [List.lookup_cons] at h
   cases q:x == n with
   | true=>
    rw [q] at h
    simp only [Option.some.injEq] at h
    subst h
    rcases hk with e | e <;> simp [e]
   | false=>rw [q] at h;simpa using ih h hk
theorem pF {scope:Scope}{env:Env}{x:Str}(hf:env.scope.kind = .function):scope.names.lookup x=some .free→(relabel scope env).names.lookup x=some .cell∨(relabel scope env).names.lookup x=some .free:=by
 unfold relabel
 show _→(scope.names.map _).lookup x=_∨(scope.names.map _).lookup x=_
 induction scope.names with
 | nil=>intro h;simp at h
 | cons p r ih=>
  obtain ⟨n,j⟩:=p
  intro h
  rw [List.lookup_cons] at h
  rw [List.map_cons]
  cases q:x == n with
  | true=>
   rw [q] at h
   simp only [Option.some.injEq] at h
   subst h
   by_cases hc:(NameKind.free == NameKind.free && env.scope.kind == .function && env.kindOf n == some .cell)=true
   ·left;simp only [hc,if_true];rw [List.lookup_cons,q]
   ·right;simp only [hc,Bool.false_eq_true,if_false];rw [List.lookup_cons,q]
  | false=>
   rw [q] at h
   by_cases hc:(j == NameKind.free && env.scope.kind == .function && env.kindOf n == some .cell)=true
   ·simp only [hc,if_true];rw [List.lookup_cons,q];exact ih h
   ·simp only [hc,Bool.false_eq_true,if_false];rw [List.lookup_cons,q];exact ih h
end L2
namespace L2
open PySem PySem.Spec PyProof.Rows
noncomputable def eB (X:Cx) (N:List Str) (scope:Scope) (s:Shared) (H:Hp) (fp:List Addr):Cx where
 prog:=X.prog
 w:=X.w
 K:=X.K
 mg:=X.mg
 base:=X.base
 A:=X.A
 N:=N
 s₀:=s
 H₀:=H
 env:=compEnvC scope (cellsFrom (s.heap.objs.size+1) scope.names (dS X.env.cells scope.names [])) s.heap.objs.size X.env
 outer:=X.stack
 stack:=X.stack
 ex:=fp
 fn:=fun x=>scope.names.lookup x == some .cell
 calm:=X.calm
 pn:=[]
 xe:=fun _ _=>False
noncomputable def aBG (σ:St):Option Nat→Option V
 | none=>none
 | some j=>(σ[j]?).join
noncomputable def iL (N:List Str) (names encl:List (Str × NameKind)) (N':List Str) (ix:List (Option Nat)):Bool:=
 decide ((names.map (·.1)).Nodup) && names.all (fun p=>!(p.2 == NameKind.free) || (encl.lookup p.1 == some NameKind.cell || encl.lookup p.1 == some NameKind.free)) && ix.length == N'.length &&
  ((N'.zip ix).all fun p=>match p.2 with
   | none=>true
   | some j=>N[j]? == some p.1 && names.lookup p.1 == some NameKind.free)
noncomputable def kX (ix:List (Option Nat)) (wi:TI) (g:TG) (ts:List TT) (tb:Addr→TS):TE:=fun σ H Q=>wi σ H fun J H1=>∀ acc,H1 acc=none →
 jE J g (jR ts (tb acc)) { nx:=fun _ H'=>Q (.ref acc) H',rt:=fun _ _=>False } (ix.map (aBG σ)) (upd H1 acc (.lst []))
section
variable {X:Cx}{elt target iter:Expr}{ifs:List Expr}{rest:List Comprehension}{scope:Scope}{pos:Pos}{N':List Str}{ix:List (Option Nat)}{wi:TI}{g:TG}{ts:List TT}{tb:Addr→TS}
theorem tG {pins:List (Addr × Obj)}{σ:St}{H:Hp}{s:Shared}{fp:List Addr}{Q:Env→Shared→Prop}{E:Value→Shared→Prop}(I:Inv X pins σ H s)(hok:iL X.N scope.names X.env.scope.names N' ix=true)(hk:scope.kind = .function)
  (hf:∀ b∈fp,tF X pins H b) (hfo:∀ b∈fp,∃ o,s.heap.get? b=some o)
  (h:∀ s',(∀ b o,s.heap.get? b=some o→s'.heap.get? b=some o)→Inv (eB X N' scope s H fp) [] (ix.map (aBG σ)) H s'→Q (newEnv scope s.heap.objs.size X.env.globals (cellsFrom (s.heap.objs.size+1) scope.names (dS X.env.cells scope.names [])) X.env.qual none .none (some X.env) builtinsNs) s') :
  wpAny (model X.prog X.w) X.A (newFunctionEnv scope X.env.globals (dS X.env.cells scope.names []) [] X.env.qual none .none (some X.env)) Q E s:=by
 have hok2:=hok
 simp only [iL,Bool.and_eq_true,decide_eq_true_eq,List.all_eq_true] at hok
 obtain ⟨⟨⟨nd,hfr⟩,hlen⟩,hix⟩:=hok
 have hlen:ix.length=N'.length:=by simpa using hlen
 have isF:∀ y∈scope.names,y.2 = .free→X.env.kindOf y.1=some .cell∨X.env.kindOf y.1=some .free:=fun y hy e=>by
  have:=hfr y hy
  have:X.env.scope.names.lookup y.1=some .cell∨X.env.scope.names.lookup y.1=some .free:=by simpa [e] using this
  exact this
 have hasC:∀ y∈scope.names,y.2 = .free→(X.env.cells.lookup y.1).isSome=true:=fun y hy e=>by
  obtain ⟨c,hc⟩:=I.ok.has y.1 (isF y hy e)
  rw [hc];rfl
 have oldC:∀ x c,(x,c)∈dS X.env.cells scope.names []→(x,NameKind.free)∈scope.names∧X.env.cells.lookup x=some c:=fun x c hm=>(iX _ _ hasC hm).resolve_left (by simp)
 have ltC:∀ x c,X.env.cells.lookup x=some c→c<s.heap.objs.size:=fun x c e=>by obtain ⟨v,q⟩:=I.cell x c e;exact q.lt
 have apart:(cellsFrom (s.heap.objs.size+1) scope.names (dS X.env.cells scope.names [])).Pairwise fun x y=>x.2≠y.2:=
  dU _ _ _ (fun p hp=>Nat.lt_succ_of_lt (ltC p.1 p.2 (oldC p.1 p.2 hp).2)) (gZ I.ok.inj _ _ nd hasC (by simp) List.Pairwise.nil)
 have fromC:∀ x c,(cellsFrom (s.heap.objs.size+1) scope.names (dS X.env.cells scope.names [])).lookup x=some c→(s.heap.objs.size+1≤c∧(x,NameKind.cell)∈scope.names)∨((x,NameKind.free)∈scope.names∧X.env.cells.lookup x=some c):=fun x c e=>
  (eI _ _ _ (PySem.mem_of_lookup e)).imp id fun z=>oldC x c z
 have sz1:(s.heap.push { cls := .type "dict",data := .dict #[] }).objs.size=s.heap.objs.size+1:=Heap.size_push ..
 simp only [newFunctionEnv,Option.isSome_some,if_true]
 refine wpAny_bind (wpAny_alloc ?_)
 refine wpAny_bind (wpAny_layCells _ (fun name kind cells=>by cases hkc:kind == NameKind.cell <;> simp [hkc]) _ _ _ _ ?_)
 rw [show ({ s with heap:=s.heap.push { cls := .type "dict",data := .dict #[] } }:Shared).heap.objs.size=s.heap.objs.size+1 from sz1]
 refine wpAny_bind ?_
 rw [List.forIn_nil]
 refine wpAny_pure (wpAny_pure ?_)
 have keep:∀ b o,s.heap.get? b=some o→(pushCells (s.heap.push { cls := .type "dict",data := .dict #[] }) scope.names).get? b=some o:=fun b o e=>pushCells_keeps _ _ b o (Heap.get?_push_of_some _ e)
 refine h _ keep ?_
 have kk:∀ x:Str,(eB X N' scope s H fp).env.kindOf x=(relabel scope X.env).names.lookup x:=fun _=>rfl
 have emptyC:∀ x c,(cellsFrom (s.heap.objs.size+1) scope.names (dS X.env.cells scope.names [])).lookup x=some c→∃ v,(pushCells (s.heap.push { cls := .type "dict",data := .dict #[] }) scope.names).IsCell c v:=fun x c e=>by
  have:=dX (x:=x) (c:=c) scope.names (s.heap.push { cls := .type "dict",data := .dict #[] }) (dS X.env.cells scope.names []) (by rw [sz1];exact PySem.mem_of_lookup e)
  rcases this with z | z
  ·obtain ⟨v,q⟩:=I.cell x c (oldC x c z).2
   exact ⟨v,q.keeps keep⟩
  ·exact ⟨none,z⟩
 refine ⟨⟨I.ok.mod,hk,I.ok.glob,I.ok.blt,Nat.le_refl _,fun y z c h1 h2=>?_,fun y hy=>?_,fun y c hy e=>?_,I.ok.hd,I.ok.frames, .inl rfl,fun b hb=>⟨?_,fun x c e=>?_⟩,I.bs,Nat.le_trans I.ok.bsz I.sz,fun b o e hb=>?_,fun b hb hs=>?_,I.stack,I.stkFree⟩,
  rfl,I.bare,Un.kept keep,⟨fun _=>none,(Heap.Ns.new s.heap (.type "dict")).keeps (pushCells_keeps _ _),fun i x v e1 e2 e3=>?_⟩,emptyC,I.hok.fresh (Nat.le_refl _),fun y c e=>?_,fun p hp=>absurd (show p∈([]:List (Addr × Obj)) from hp) (by simp),I.hok.kept keep,by rw [List.length_map];exact hlen⟩
 ·exact name_of_addr apart (PySem.mem_of_lookup h1) (PySem.mem_of_lookup h2)
 ·rw [kk] at hy
  have hy':scope.names.lookup y=some .cell∨scope.names.lookup y=some .free:=by
   rcases hy with q | q
   ·exact iW q (.inl rfl)
   ·exact iW q (.inr rfl)
  refine Option.isSome_iff_exists.mp (PySem.W.cellsFrom_some _ _ _ ?_)
  rcases hy' with q | q
  ·exact .inl q
  ·have hm:=PySem.mem_of_lookup q
   obtain ⟨c,hc⟩:=Option.isSome_iff_exists.mp (hasC _ hm rfl)
   exact .inr (by rw [kI hc _ _ hm];rfl)
 ·have hy:scope.names.lookup y=some .cell:=by simpa using (show (scope.names.lookup y == some NameKind.cell)=true from hy)
  rcases fromC y c e with z | z
  ·exact Nat.le_of_succ_le z.1
  ·have:=cN nd z.1
   rw [hy] at this;cases this
 ·obtain ⟨o,ho⟩:=hfo b hb
  exact Nat.ne_of_lt (Heap.lt_size ho)
 ·rcases fromC x c e with z | z
  ·obtain ⟨o,ho⟩:=hfo b hb
   exact Nat.ne_of_gt (Nat.lt_of_lt_of_le (Heap.lt_size ho) (Nat.le_of_succ_le z.1))
  ·exact (hf b hb).2.2.2.2.1 x c z.2
 ·rcases (hf b hb).2.2.2.1 with z | z
  ·exact I.ok.noex b o e z
  ·exact absurd (Nat.lt_of_lt_of_le (Heap.lt_size (I.ok.bs b o e).1) z) (Nat.lt_irrefl _)
 ·rcases List.mem_cons.mp (I.stkSub b hs) with z | z
  ·exact (hf b hb).2.1 z
  ·exact (hf b hb).2.2.1 z
 ·rw [List.getElem?_map] at e2
  cases hj:ix[i]? with
  | none=>rw [hj] at e2;cases e2
  | some oj=>
   rw [hj] at e2
   have e2:aBG σ oj=some v:=by simpa using e2
   cases oj with
   | none=>cases e2
   | some j=>
    have hv:σ[j]?=some (some v):=by
     have e2':(σ[j]?).join=some v:=e2
     cases q:σ[j]? with
     | none=>rw [q] at e2';cases e2'
     | some w=>rw [q] at e2';have:w=some v:=e2';rw [this]
    have hz:(x,some j)∈N'.zip ix:=by
     refine List.mem_of_getElem? (i:=i) ?_
     rw [List.getElem?_zip_eq_some]
     exact ⟨e1,hj⟩
    have:=hix _ hz
    simp only [Bool.and_eq_true,beq_iff_eq] at this
    obtain ⟨n1,n2⟩:=this
    have hm:=PySem.mem_of_lookup n2
    obtain ⟨m,hn,hl⟩:=I.loc
    have kf:=isF (x, .free) hm rfl
    have vis:Vis X.env.scope x:=by
     rcases kf with q | q
     ·exact .inr (.inl q)
     ·exact .inr (.inr q)
    obtain ⟨u,r,l⟩:=hl j x v n1 hv vis
    refine ⟨u,r, .inr ?_⟩
    rcases l with ⟨k1,_⟩ | ⟨_,c,hc,hcell⟩
    ·rcases kf with q | q <;> (rw [show X.env.kindOf x=some NameKind.local from k1] at q;cases q)
    ·refine ⟨?_,c,?_,hcell.keeps keep⟩
     ·rw [kk];exact pF I.ok.kind n2
     ·show (cellsFrom _ _ _).lookup x=some c
      rw [fA,kI hc _ _ hm]
      intro z
      have:=cN nd z
      rw [n2] at this;cases this
 ·rcases fromC y c e with z | z
  ·exact I.hok.fresh (Nat.le_of_succ_le z.1)
  ·exact I.freeC y c z.2
theorem mL {pins:List (Addr × Obj)}{σ:St}{H:Hp}{s:Shared}{it:Addr}{fp:List Addr}{tn:Nat→Heap→Prop}{J:It}{RR:Value→Addr→Result→Shared→Prop}{E:Value→Shared→Prop}{D:Addr→lO}
  (hc:X.calm=true) (hok:iL X.N scope.names X.env.scope.names N' ix=true) (hk:scope.kind = .function) (hn:∀ g',rest[0]?=some g'→g'.is_async=0)
  (hg:∀ s H fp,PG (eB X N' scope s H fp) target g) (hts:∀ s H fp,PTs (eB X N' scope s H fp) ifs ts)
  (hb:∀ s H fp acc,PB (eB X N' scope s H fp) elt (⟨target,iter,ifs,0⟩ :: rest) scope pos 0 acc (tb acc))
  (I:Inv X pins σ H s) (T:aAx X.prog X.w X.K target J fp it tn) (st:tn 0 s.heap) (hf:∀ b∈fp,tF X pins H b)
  (h:∀ acc,H acc=none→jE J g (jR ts (tb acc)) (D acc) (ix.map (aBG σ)) (upd H acc (.lst [])))
  (hR:∀ acc C s' H' σ',H acc=none→s.heap.objs.size≤C→Inv X pins σ H' s'→tF X pins H' C→(∃ m,s'.heap.Ns C m)→(D acc).nx σ' H'→RR (.ref acc) C (.ok .next) s') :
  wpAny (model X.prog X.w) X.A (newList []) (fun acc s₃=>wpAny (model X.prog X.w) X.A (newFunctionEnv scope X.env.globals (dS X.env.cells scope.names []) [] X.env.qual none .none (some X.env)) (fun cenv s₄=>
   codeAny (model X.prog X.w) X.A (.compStart (.ListComp elt (⟨target,iter,ifs,0⟩ :: rest) scope pos) 0 (.ref it) acc { cenv with scope:=relabel scope X.env }) (fun r s'=>∃ f,r = .ok f∧RR acc cenv.locals (.ok .next) s') s₄) E s₃) E s:=by
 refine wpAny_newObj_type ?_
 have hnone:H s.heap.objs.size=none:=I.hok.fresh (Nat.le_refl _)
 have I3:Inv X pins σ (upd H s.heap.objs.size (.lst [])) { s with heap:=s.heap.push { cls := .type "list",data := .seq ([]:List Value).toArray } }:=
  I.laid (t':=s.toks) (fun b u e=>Heap.get?_push_of_some _ e) (Nat.le_refl _) ⟨Nat.zero_le _,[],0, .nil,Heap.get?_push_size _ rfl⟩
 have hlt:∀ b∈fp,b<s.heap.objs.size:=fun b hb=>by obtain ⟨o,ho,_⟩:=T.obj 0 _ st b hb;exact Heap.lt_size ho
 have hf3:∀ b∈fp,tF X pins (upd H s.heap.objs.size (.lst [])) b:=fun b hb=>⟨by rw [aP (Nat.ne_of_lt (hlt b hb))];exact (hf b hb).1,(hf b hb).2⟩
 refine tG (fp:=fp) I3 hok hk hf3 (fun b hb=>?_) fun s4 keep I4=>?_
 ·obtain ⟨o,ho,_⟩:=T.obj 0 _ st b hb
  exact ⟨o,Heap.get?_push_of_some _ ho⟩
 have st4:tn 0 s4.heap:=T.keep 0 _ _ st fun b hb o e=>keep b o (Heap.get?_push_of_some _ e)
 have size3:({ s with heap:=s.heap.push { cls := .type "list",data := .seq ([]:List Value).toArray } }:Shared).heap.objs.size=s.heap.objs.size+1:=Heap.size_push ..
 have hf4:∀ b∈fp,tF (eB X N' scope { s with heap:=s.heap.push { cls := .type "list",data := .seq ([]:List Value).toArray } } (upd H s.heap.objs.size (.lst [])) fp) [] (upd H s.heap.objs.size (.lst [])) b:=fun b hb=>
  ⟨(hf3 b hb).1,(I4.ok.exf b hb).1,I4.ok.exfs b hb, .inl hb,(I4.ok.exf b hb).2,fun p hp=>absurd (show p∈([]:List (Addr × Obj)) from hp) (by simp)⟩
 refine codeAny_mono (pZ (X:=eB X N' scope { s with heap:=s.heap.push { cls := .type "list",data := .seq ([]:List Value).toArray } } (upd H s.heap.objs.size (.lst [])) fp) rfl hc (d:=0) (gens:=⟨target,iter,ifs,0⟩ :: rest) rfl hn (hg _ _ _) (hts _ _ _) (hb _ _ _ _) T I4 st4 hf4 (h _ hnone)) fun r s5 ⟨f,hr,σ5,H5,I5,q5⟩=>⟨f,hr,?_⟩
 have I6:Inv X pins σ H5 s5:=I3.call' (ch:=fp) (I5.os.trans rfl) I5.base I5.hok I5.bare fun b hb=>⟨(hf3 b hb).2.2.2.1,(hf3 b hb).2.1,(hf3 b hb).2.2.2.2.1,(hf3 b hb).2.2.2.2.2⟩
 have hC:s.heap.objs.size≤(eB X N' scope { s with heap:=s.heap.push { cls := .type "list",data := .seq ([]:List Value).toArray } } (upd H s.heap.objs.size (.lst [])) fp).env.locals:=by
  show s.heap.objs.size≤_
  exact Nat.le_trans (Nat.le_succ _) (Nat.le_of_eq size3.symm)
 refine hR _ _ s5 H5 σ5 hnone hC I6 (I3.fpOk (Nat.le_refl _) I5.free) ?_ q5
 obtain ⟨m,hm,_⟩:=I5.loc
 exact ⟨m,hm⟩
theorem jI (hok:iL X.N scope.names X.env.scope.names N' ix=true):∀ x∈scope.names,x.2 = .local→scope.names.lookup x.1=some .local:=by
 simp only [iL,Bool.and_eq_true,decide_eq_true_eq,List.all_eq_true] at hok
 intro x hx e
 obtain ⟨n,k⟩:=x
 have e:k = .local:=e
 subst e
 exact cN hok.1.1.1 hx
theorem kM {pins:List (Addr × Obj)}{σ:St}{H:Hp}{s:Shared}(I:Inv X pins σ H s)(hok:iL X.N scope.names X.env.scope.names N' ix=true):closureFor scope X.env=pure (dS X.env.cells scope.names []):=by
 refine mG fun y hy e=>?_
 simp only [iL,Bool.and_eq_true,decide_eq_true_eq,List.all_eq_true] at hok
 have:=hok.1.1.2 y hy
 have:X.env.scope.names.lookup y.1=some .cell∨X.env.scope.names.lookup y.1=some .free:=by simpa [e] using this
 obtain ⟨c,hc⟩:=I.ok.has y.1 this
 rw [hc];rfl
theorem lM (hok:iL X.N scope.names X.env.scope.names N' ix=true)(hk:scope.kind = .function)(hc:X.calm=true)(hi:PI X target iter wi)
  (hg:∀ s H fp,PG (eB X N' scope s H fp) target g) (hts:∀ s H fp,PTs (eB X N' scope s H fp) ifs ts)
  (hb:∀ s H fp acc,PB (eB X N' scope s H fp) elt (⟨target,iter,ifs,0⟩ :: rest) scope pos 0 acc (tb acc))
  (hn:∀ g',rest[0]?=some g'→g'.is_async=0:=by intro _ h;first | cases h;rfl | cases h) (hs:∀ x,foldedSetIterable iter X.env x=pure x:=by intro _;rfl) :
  PE X (.ListComp elt (⟨target,iter,ifs,0⟩ :: rest) scope pos) (kX ix wi g ts tb):=by
 intro pins s σ H Q I h
 rw [eval_ListComp]
 refine wpAny_comprehension_free (use:=none) rfl hs (kM I hok) hk (jI hok) (thn (hi pins s σ H _ I h) fun xv s₁ h₁=>thn h₁ fun itv s₂ h₂=>?_)
 obtain ⟨it,fp,tn,J,H2,e,I2,T,st2,f2,q2⟩:=h₂
 subst e
 refine thn (mL (RR:=fun acc C r s'=>compPost (model X.prog X.w) X.A X.xe none (EP X pins σ Q) acc C r s') hc hok hk hn hg hts hb I2 T st2 f2 q2 fun acc C s' H' σ' ha hC I' fC hns q=>?_) fun acc s3 h3=>thn h3 fun cenv s4 h4=>codeAny_mono h4 fun r s5 ⟨f,hr,h5⟩=>?_
 ·obtain ⟨m,hm⟩:=hns
  refine ⟨m,hm,fun h' hs'=>⟨.ref acc,H',I'.turned (t':=s'.toks) (fun b o hb e=>(hs'.2 b hb).trans e) fC.1 fC.2.1 fC.2.2.2.1 fC.2.2.2.2.1 fC.2.2.2.2.2,rfl,q⟩⟩
 ·subst hr
  exact h5
theorem jD {i:Nat}{x:Str}{pos' spos:Pos}(hN:X.N.Nodup)(hix:X.N[i]?=some x)(hx:Loc X.env.scope x)(hok:iL X.N scope.names X.env.scope.names N' ix=true)(hk:scope.kind = .function)(hc:X.calm=true)(hi:PI X target iter wi)
  (hg:∀ s H fp,PG (eB X N' scope s H fp) target g) (hts:∀ s H fp,PTs (eB X N' scope s H fp) ifs ts)
  (hb:∀ s H fp acc,PB (eB X N' scope s H fp) elt (⟨target,iter,ifs,0⟩ :: rest) scope pos 0 acc (tb acc))
  (hsw:swapsWith (.ListComp elt (⟨target,iter,ifs,0⟩ :: rest) scope pos) (some (.Name x pos')) spos.line X.env=pure true:=by rfl)
  (hf:X.fn x=true∨X.env.scope.names.lookup x=some .local:=by first | exact .inl rfl | exact .inr rfl | assumption)
  (hn:∀ g',rest[0]?=some g'→g'.is_async=0:=by intro _ h;first | cases h;rfl | cases h) (hs:∀ x,foldedSetIterable iter X.env x=pure x:=by intro _;rfl) :
  PS X (.Assign [.Name x pos'] (.ListComp elt (⟨target,iter,ifs,0⟩ :: rest) scope pos) spos) (bW (kX ix wi g ts tb) (aN i)):=by
 intro pins s σ H D I h
 rw [exec_Assign_Name_used _ _ _ _ hsw]
 refine wpAny_bind (wpAny_standAt (wpAny_bind ?_))
 show wpAny _ X.A (do let _ ← comprehension (.ListComp elt (⟨target,iter,ifs,0⟩ :: rest) scope pos) scope X.env _ (newList []) false (eval iter X.env) (some (assign (.Name x pos') X.env))) _ _ s
 refine wpAny_bind (wpAny_mono (wpAny_comprehension_free (use:=some (assign (.Name x pos') X.env)) (Q:=fun _ s'=>SP X pins D .next s') rfl hs (kM I hok) hk (jI hok) (thn (hi pins s σ H _ I h) fun xv s₁ h₁=>thn h₁ fun itv s₂ h₂=>?_)) (fun _ s' hq=>wpAny_pure (wpAny_pure hq)) fun _ _ e=>e)
 obtain ⟨it,fp,tn,J,H2,e,I2,T,st2,f2,q2⟩:=h₂
 subst e
 refine thn (mL (RR:=fun acc C r s'=>compPost (model X.prog X.w) X.A X.xe (some (assign (.Name x pos') X.env)) (fun _ s'=>SP X pins D .next s') acc C r s') hc hok hk hn hg hts hb I2 T st2 f2 q2 fun acc C s' H' σ' ha hC I' fC hns q=>?_) fun acc s3 h3=>thn h3 fun cenv s4 h4=>codeAny_mono h4 fun r s5 ⟨f,hr,h5⟩=>?_
 ·obtain ⟨m,hm⟩:=hns
  show wpAny _ X.A (assign (.Name x pos') X.env (.ref acc)) _ _ _
  refine wpAny_assign_Name (qB I' hN hix hx (v := .ref acc) rfl (fun s6 I6 ⟨a,hsb,ha6⟩=>?_) hf)
  have hCa:C≠a:=by
   rcases ha6 with z | z
   ·rw [z];exact fC.2.1
   ·exact (fC.2.2.2.2.1 x a z).symm
  refine ⟨m,hm.sameBut hsb hCa,fun h' hs'=>⟨_,H',I6.turned (t':=s6.toks) (fun b o hb e=>(hs'.2 b hb).trans e) fC.1 fC.2.1 fC.2.2.2.1 fC.2.2.2.2.1 fC.2.2.2.2.2,q⟩⟩
 ·subst hr
  exact h5
end
end L2
namespace L2
open PySem PySem.Spec PyProof.Rows
theorem Same.tup {K:PySem.W.Frag}{H H':Hp}{a:Addr}{xs:List V}(e:Same H H')(h:SqT K H a xs):SqT K H' a xs:=by
 rcases h with (h | ⟨o,h⟩) | h
 ·exact .inl (.inl (e _ _ h))
 ·exact .inl (.inr ⟨o,e _ _ h⟩)
 ·exact .inr h
inductive Dt where
 | non | bl (b:Bool) | int (i:Int) | str (x:Str) | tup (ds:List Dt) | lst (ds:List Dt)
mutual
noncomputable def Sh (K:PySem.W.Frag) (H:Hp):Dt→V→Prop
 | .non,v=>v = .non
 | .bl b,v=>v = .bl b
 | .int i,v=>v = .int i
 | .str x,v=>v = .str x
 | .tup ds,v=>∃ a xs,v = .ref a∧SqT K H a xs∧ShL K H ds xs
 | .lst ds,v=>∃ a xs,v = .ref a∧SqL K H a xs∧ShL K H ds xs
noncomputable def ShL (K:PySem.W.Frag) (H:Hp):List Dt→List V→Prop
 | [],xs=>xs=[]
 | d :: ds,xs=>∃ x r,xs=x :: r∧Sh K H d x∧ShL K H ds r
end
mutual
noncomputable def eqD:Dt→Dt→Bool
 | .non, .non=>true
 | .bl a, .bl b=>a == b
 | .int a, .int b=>a == b
 | .str a, .str b=>a == b
 | .bl a, .int b=>(if a then 1 else 0) == b
 | .int a, .bl b=>a == (if b then 1 else 0)
 | .tup ds, .tup es=>eqL ds es
 | .lst ds, .lst es=>eqL ds es
 | _,_=>false
noncomputable def eqL:List Dt→List Dt→Bool
 | [],[]=>true
 | d :: ds,e :: es=>eqD d e && eqL ds es
 | _,_=>false
end
mutual
noncomputable def dep:Dt→Nat
 | .tup ds=>oC ds+1
 | .lst ds=>oC ds+1
 | _=>0
noncomputable def oC:List Dt→Nat
 | []=>0
 | d :: ds=>max (dep d) (oC ds)
end
section
variable {K:PySem.W.Frag}{H H':Hp}
mutual
theorem Sh.same (e:Same H H'):∀ {d:Dt} {v:V},Sh K H d v→Sh K H' d v
 | .non,_,h=>h
 | .bl _,_,h=>h
 | .int _,_,h=>h
 | .str _,_,h=>h
 | .tup ds,_,⟨a,xs,h1,h2,h3⟩=>⟨a,xs,h1,e.tup h2,ShL.same e h3⟩
 | .lst ds,_,⟨a,xs,h1,h2,h3⟩=>⟨a,xs,h1,e.seq h2,ShL.same e h3⟩
theorem ShL.same (e:Same H H'):∀ {ds:List Dt} {xs:List V},ShL K H ds xs→ShL K H' ds xs
 | [],_,h=>h
 | d :: ds,_,⟨x,r,h1,h2,h3⟩=>⟨x,r,h1,Sh.same e h2,ShL.same e h3⟩
end
theorem ShL.length:∀ {ds:List Dt} {xs:List V},ShL K H ds xs→ds.length=xs.length
 | [],_,h=>by rw [show _=[] from h];rfl
 | d :: ds,_,⟨x,r,h1,h2,h3⟩=>by rw [h1,List.length_cons,List.length_cons,ShL.length h3]
theorem ShL.get:∀ {ds:List Dt} {xs:List V} {j:Nat} {d:Dt},ShL K H ds xs→ds[j]?=some d→∃ x,xs[j]?=some x∧Sh K H d x
 | [],_,_,_,_,h=>by simp at h
 | d :: ds,_,0,e,⟨x,r,h1,h2,h3⟩,h=>by
  have:d=e:=by simpa using h
  subst this
  exact ⟨x,by rw [h1];rfl,h2⟩
 | d :: ds,_,j+1,e,⟨x,r,h1,h2,h3⟩,h=>by
  obtain ⟨y,h4,h5⟩:=ShL.get (j:=j) h3 (by simpa using h)
  exact ⟨y,by rw [h1];simpa using h4,h5⟩
theorem ShL.ints:∀ (ns:List Int),ShL K H (ns.map Dt.int) (ns.map V.int)
 | []=>rfl
 | n :: ns=>⟨.int n,ns.map V.int,rfl,rfl,ShL.ints ns⟩
theorem ShL.of_ints:∀ {ns:List Int} {xs:List V},ShL K H (ns.map Dt.int) xs→xs=ns.map V.int
 | [],_,h=>h
 | n :: ns,_,⟨x,r,h1,h2,h3⟩=>by rw [h1,ShL.of_ints h3,show x=V.int n from h2];rfl
end
mutual
theorem yG:∀ d:Dt,eqD d d=true
 | .non=>by unfold eqD;rfl
 | .bl b=>by unfold eqD;simp
 | .int b=>by unfold eqD;simp
 | .str b=>by unfold eqD;simp
 | .tup ds=>by unfold eqD;exact eV ds
 | .lst ds=>by unfold eqD;exact eV ds
theorem eV:∀ ds:List Dt,eqL ds ds=true
 | []=>by unfold eqL;rfl
 | d :: ds=>by unfold eqL;rw [yG d,eV ds];rfl
end
theorem jB:∀ {ds es:List Dt},eqL ds es=true→ds.length=es.length
 | [],[],_=>rfl
 | [],_ :: _,h=>by unfold eqL at h;cases h
 | _ :: _,[],h=>by unfold eqL at h;cases h
 | d :: ds,e :: es,h=>by
  unfold eqL at h
  rw [List.length_cons,List.length_cons,jB (Bool.and_eq_true_iff.mp h).2]
theorem gQ (n:Nat)(f:Nat→Bool):(List.range (n+1)).all f=(f 0 && (List.range n).all fun j=>f (j+1)):=by
 rw [List.range_succ_eq_map,List.all_cons,List.all_map]
 rfl
theorem iZ:∀ (ds es:List Dt),((List.range (min ds.length es.length)).all (fun j=>eqD (ds.getD j .non) (es.getD j .non)) && ds.length == es.length)=eqL ds es
 | [],[]=>by unfold eqL;rfl
 | [],e :: es=>by unfold eqL;simp
 | d :: ds,[]=>by unfold eqL;simp
 | d :: ds,e :: es=>by
  have ih:=iZ ds es
  unfold eqL
  rw [← ih,List.length_cons,List.length_cons,Nat.succ_min_succ,gQ,Bool.and_assoc]
  congr 1
  congr 1
  simp
theorem nI {ds:List Dt}{j:Nat}{d:Dt}(h:ds[j]?=some d):dep d≤oC ds:=by
 induction ds generalizing j with
 | nil=>simp at h
 | cons e es ih=>
  unfold oC
  cases j with
  | zero=>
   have:e=d:=by simpa using h
   subst this
   exact Nat.le_max_left _ _
  | succ j=>exact Nat.le_trans (ih (by simpa using h)) (Nat.le_max_right _ _)
section
variable {X:Cx}{pins:List (Addr × Obj)}{σ:St}{H:Hp}{s:Shared}
theorem Inv.tl_ne (I:Inv X pins σ H s){a:Addr}{xs ys:List V}(h:SqT X.K H a xs)(h':SqL X.K H a ys):False:=by
 obtain ⟨its,r,⟨o,e,c,n,d⟩,_⟩:=I.tuple h
 obtain ⟨its',r',⟨o',n',e',c',_,d'⟩,_⟩:=I.list h'
 rw [e] at e';cases e'
 rw [c] at c';simp at c'
mutual
theorem Inv.sh_inj (I:Inv X pins σ H s):∀ {d e:Dt} {v:V},Sh X.K H d v→Sh X.K H e v→d=e
 | .non,e,v,h,h'=>by
  have h:v = .non:=h
  subst h
  cases e <;> first | rfl | (exact absurd (show V.non=_ from h') (fun z=>nomatch z)) | (obtain ⟨_,_,z,_⟩:=h';cases z)
 | .bl b,e,v,h,h'=>by
  have h:v = .bl b:=h
  subst h
  cases e <;> first | (cases (show V.bl b=V.bl _ from h');rfl) | (exact absurd (show V.bl b=_ from h') (fun z=>nomatch z)) | (obtain ⟨_,_,z,_⟩:=h';cases z)
 | .int b,e,v,h,h'=>by
  have h:v = .int b:=h
  subst h
  cases e <;> first | (cases (show V.int b=V.int _ from h');rfl) | (exact absurd (show V.int b=_ from h') (fun z=>nomatch z)) | (obtain ⟨_,_,z,_⟩:=h';cases z)
 | .str b,e,v,h,h'=>by
  have h:v = .str b:=h
  subst h
  cases e <;> first | (cases (show V.str b=V.str _ from h');rfl) | (exact absurd (show V.str b=_ from h') (fun z=>nomatch z)) | (obtain ⟨_,_,z,_⟩:=h';cases z)
 | .tup ds,e,v,⟨a,xs,h1,h2,h3⟩,h'=>by
  subst h1
  cases e with
  | tup es=>
   obtain ⟨a',xs',z,h2',h3'⟩:=h'
   cases z
   rw [I.tuple_inj h2' h2] at h3'
   rw [Inv.shL_inj I h3 h3']
  | lst es=>
   obtain ⟨a',xs',z,h2',h3'⟩:=h'
   cases z
   exact (I.tl_ne h2 h2').elim
  | _=>exact absurd (show V.ref a=_ from h') (fun z=>nomatch z)
 | .lst ds,e,v,⟨a,xs,h1,h2,h3⟩,h'=>by
  subst h1
  cases e with
  | lst es=>
   obtain ⟨a',xs',z,h2',h3'⟩:=h'
   cases z
   rw [I.list_inj h2' h2] at h3'
   rw [Inv.shL_inj I h3 h3']
  | tup es=>
   obtain ⟨a',xs',z,h2',h3'⟩:=h'
   cases z
   exact (I.tl_ne h2' h2).elim
  | _=>exact absurd (show V.ref a=_ from h') (fun z=>nomatch z)
theorem Inv.shL_inj (I:Inv X pins σ H s):∀ {ds es:List Dt} {xs:List V},ShL X.K H ds xs→ShL X.K H es xs→ds=es
 | [],[],_,_,_=>rfl
 | [],e :: es,_,h,⟨x,r,h1,_⟩=>by rw [show _=[] from h] at h1;cases h1
 | d :: ds,[],_,⟨x,r,h1,_⟩,h=>by rw [show _=[] from h] at h1;cases h1
 | d :: ds,e :: es,_,⟨x,r,h1,h2,h3⟩,⟨x',r',h1',h2',h3'⟩=>by
  rw [h1] at h1'
  cases h1'
  rw [Inv.sh_inj I h2 h2',Inv.shL_inj I h3 h3']
end
end
end L2
namespace L2
open PySem PySem.Spec PyProof.Rows
section
variable {X:Cx}{pins:List (Addr × Obj)}{σ:St}{H:Hp}{s:Shared}
open PySem.SeqAt
theorem kH {ds es:List Dt}{xs ys:List V}{us vs:List Value}(hs:ShL X.K H ds xs)(hr:Vals xs us)(hs':ShL X.K H es ys)(hr':Vals ys vs){A:Around}
  (h:∀ (d e:Dt) (x y:V) (u v:Value),(∃ j:Nat,ds[j]?=some d)→RelV x u→RelV y v→Sh X.K H d x→Sh X.K H e y→EqAt A s u v (eqD d e)) :
  ∀ j (h1:j<us.toArray.size) (h2:j<vs.toArray.size),EqAt A s us.toArray[j] vs.toArray[j] (eqD (ds.getD j .non) (es.getD j .non)):=by
 intro j h1 h2
 have l1:=hs.length
 have l2:=hr.length
 have l3:=hs'.length
 have l4:=hr'.length
 have g1:j<us.length:=by simpa using h1
 have g2:j<vs.length:=by simpa using h2
 have e1:ds[j]?=some (ds.getD j .non):=by rw [List.getD_eq_getElem?_getD,List.getElem?_eq_getElem (by omega)];rfl
 have e2:es[j]?=some (es.getD j .non):=by rw [List.getD_eq_getElem?_getD,List.getElem?_eq_getElem (by omega)];rfl
 obtain ⟨x,hx,sx⟩:=hs.get e1
 obtain ⟨y,hy,sy⟩:=hs'.get e2
 obtain ⟨u,hu,ru⟩:=hr.get hx
 obtain ⟨v,hv,rv⟩:=hr'.get hy
 have q1:us.toArray[j]=u:=by
  rw [List.getElem?_eq_getElem g1] at hu
  simpa using hu
 have q2:vs.toArray[j]=v:=by
  rw [List.getElem?_eq_getElem g2] at hv
  simpa using hv
 rw [q1,q2]
 exact h _ _ x y u v ⟨j,e1⟩ ru rv sx sy
theorem Inv.eq_sh (I:Inv X pins σ H s):∀ (n:Nat) (A:Around) (d e:Dt) (x y:V) (u v:Value),dep d≤n→A.units+n<cLine→RelV x u→RelV y v→Sh X.K H d x→Sh X.K H e y→RcAt A s u v (eqD d e)∧EqAt A s u v (eqD d e):=by
 intro n
 induction n with
 | zero=>
  intro A d e x y u v hd hu rx ry hx hy
  have hu0:A.units<cLine:=by omega
  cases d with
  | tup ds=>unfold dep at hd;omega
  | lst ds=>unfold dep at hd;omega
  | non=>
   obtain rfl:x = .non:=hx
   obtain rfl:u=Value.none:=rx
   cases e with
   | non=>obtain rfl:y = .non:=hy;obtain rfl:v=Value.none:=ry;unfold eqD;exact ⟨RcAt.none_none,EqAt.same _⟩
   | bl b=>obtain rfl:y = .bl b:=hy;obtain rfl:v=Value.bool b:=ry;unfold eqD;exact ⟨RcAt.none_bool b,EqAt.none_bool b⟩
   | int b=>obtain rfl:y = .int b:=hy;obtain ⟨t,rfl⟩:=ry;unfold eqD;exact ⟨RcAt.none_int b t,EqAt.none_int b t⟩
   | str b=>obtain rfl:y = .str b:=hy;obtain ⟨t,rfl⟩:=ry;unfold eqD;exact ⟨RcAt.none_str b t,EqAt.none_str b t⟩
   | tup es=>obtain ⟨b,ys,rfl,hq,_⟩:=hy;obtain rfl:v=Value.ref b:=ry;obtain ⟨its,_,p,_⟩:=I.tuple hq;unfold eqD;exact ⟨RcAt.none_tuple (show s.heap.IsTuple b its.toArray from p) hu0,EqAt.none_tuple (show s.heap.IsTuple b its.toArray from p) hu0⟩
   | lst es=>obtain ⟨b,ys,rfl,hq,_⟩:=hy;obtain rfl:v=Value.ref b:=ry;obtain ⟨its,_,p,_⟩:=I.list hq;unfold eqD;exact ⟨RcAt.none_list p.isList hu0,EqAt.none_list p.isList hu0⟩
  | bl a=>
   obtain rfl:x = .bl a:=hx
   obtain rfl:u=Value.bool a:=rx
   cases e with
   | non=>obtain rfl:y = .non:=hy;obtain rfl:v=Value.none:=ry;unfold eqD;exact ⟨RcAt.bool_none a,EqAt.bool_none a⟩
   | bl b=>obtain rfl:y = .bl b:=hy;obtain rfl:v=Value.bool b:=ry;unfold eqD;exact ⟨RcAt.bool_bool a b,EqAt.bool_bool a b⟩
   | int b=>obtain rfl:y = .int b:=hy;obtain ⟨t,rfl⟩:=ry;unfold eqD;exact ⟨RcAt.bool_int a b t,EqAt.bool_int a b t⟩
   | str b=>obtain rfl:y = .str b:=hy;obtain ⟨t,rfl⟩:=ry;unfold eqD;exact ⟨RcAt.bool_str a b t,EqAt.bool_str a b t⟩
   | tup es=>obtain ⟨b,ys,rfl,hq,_⟩:=hy;obtain rfl:v=Value.ref b:=ry;obtain ⟨its,_,p,_⟩:=I.tuple hq;unfold eqD;exact ⟨RcAt.bool_tuple a (show s.heap.IsTuple b its.toArray from p) hu0,EqAt.bool_tuple a (show s.heap.IsTuple b its.toArray from p) hu0⟩
   | lst es=>obtain ⟨b,ys,rfl,hq,_⟩:=hy;obtain rfl:v=Value.ref b:=ry;obtain ⟨its,_,p,_⟩:=I.list hq;unfold eqD;exact ⟨RcAt.bool_list a p.isList hu0,EqAt.bool_list a p.isList hu0⟩
  | int a=>
   obtain rfl:x = .int a:=hx
   obtain ⟨t0,rfl⟩:=rx
   cases e with
   | non=>obtain rfl:y = .non:=hy;obtain rfl:v=Value.none:=ry;unfold eqD;exact ⟨RcAt.int_none a t0,EqAt.int_none a t0⟩
   | bl b=>obtain rfl:y = .bl b:=hy;obtain rfl:v=Value.bool b:=ry;unfold eqD;exact ⟨RcAt.int_bool a t0 b,EqAt.int_bool a t0 b⟩
   | int b=>obtain rfl:y = .int b:=hy;obtain ⟨t,rfl⟩:=ry;unfold eqD;exact ⟨RcAt.int_int a t0 b t,EqAt.int_int a t0 b t⟩
   | str b=>obtain rfl:y = .str b:=hy;obtain ⟨t,rfl⟩:=ry;unfold eqD;exact ⟨RcAt.int_str a t0 b t,EqAt.int_str a t0 b t⟩
   | tup es=>obtain ⟨b,ys,rfl,hq,_⟩:=hy;obtain rfl:v=Value.ref b:=ry;obtain ⟨its,_,p,_⟩:=I.tuple hq;unfold eqD;exact ⟨RcAt.int_tuple a t0 (show s.heap.IsTuple b its.toArray from p) hu0,EqAt.int_tuple a t0 (show s.heap.IsTuple b its.toArray from p) hu0⟩
   | lst es=>obtain ⟨b,ys,rfl,hq,_⟩:=hy;obtain rfl:v=Value.ref b:=ry;obtain ⟨its,_,p,_⟩:=I.list hq;unfold eqD;exact ⟨RcAt.int_list a t0 p.isList hu0,EqAt.int_list a t0 p.isList hu0⟩
  | str a=>
   obtain rfl:x = .str a:=hx
   obtain ⟨t0,rfl⟩:=rx
   cases e with
   | non=>obtain rfl:y = .non:=hy;obtain rfl:v=Value.none:=ry;unfold eqD;exact ⟨RcAt.str_none a t0,EqAt.str_none a t0⟩
   | bl b=>obtain rfl:y = .bl b:=hy;obtain rfl:v=Value.bool b:=ry;unfold eqD;exact ⟨RcAt.str_bool a t0 b,EqAt.str_bool a t0 b⟩
   | int b=>obtain rfl:y = .int b:=hy;obtain ⟨t,rfl⟩:=ry;unfold eqD;exact ⟨RcAt.str_int a t0 b t,EqAt.str_int a t0 b t⟩
   | str b=>obtain rfl:y = .str b:=hy;obtain ⟨t,rfl⟩:=ry;unfold eqD;exact ⟨RcAt.str_str a t0 b t,EqAt.str_str a t0 b t⟩
   | tup es=>obtain ⟨b,ys,rfl,hq,_⟩:=hy;obtain rfl:v=Value.ref b:=ry;obtain ⟨its,_,p,_⟩:=I.tuple hq;unfold eqD;exact ⟨RcAt.str_tuple a t0 (show s.heap.IsTuple b its.toArray from p) hu0,EqAt.str_tuple a t0 (show s.heap.IsTuple b its.toArray from p) hu0⟩
   | lst es=>obtain ⟨b,ys,rfl,hq,_⟩:=hy;obtain rfl:v=Value.ref b:=ry;obtain ⟨its,_,p,_⟩:=I.list hq;unfold eqD;exact ⟨RcAt.str_list a t0 p.isList hu0,EqAt.str_list a t0 p.isList hu0⟩
 | succ n ih=>
  intro A d e x y u v hd hu rx ry hx hy
  have hu0:A.units<cLine:=by omega
  by_cases hd0:dep d≤n
  ·exact ih A d e x y u v hd0 (by omega) rx ry hx hy
  cases d with
  | non=>exact absurd (Nat.zero_le _) hd0
  | bl a=>exact absurd (Nat.zero_le _) hd0
  | int a=>exact absurd (Nat.zero_le _) hd0
  | str a=>exact absurd (Nat.zero_le _) hd0
  | tup ds=>
   have hdd:oC ds≤n:=by unfold dep at hd;omega
   have hx0:=hx
   obtain ⟨a,xs,rfl,hq,hl⟩:=hx
   obtain rfl:u=Value.ref a:=rx
   obtain ⟨its,rv,p,_⟩:=I.tuple hq
   have p:s.heap.IsTuple a its.toArray:=p
   cases e with
   | non=>obtain rfl:y = .non:=hy;obtain rfl:v=Value.none:=ry;unfold eqD;exact ⟨RcAt.tuple_none p hu0,EqAt.tuple_none p hu0⟩
   | bl b=>obtain rfl:y = .bl b:=hy;obtain rfl:v=Value.bool b:=ry;unfold eqD;exact ⟨RcAt.tuple_bool b p hu0,EqAt.tuple_bool b p hu0⟩
   | int b=>obtain rfl:y = .int b:=hy;obtain ⟨t,rfl⟩:=ry;unfold eqD;exact ⟨RcAt.tuple_int b t p hu0,EqAt.tuple_int b t p hu0⟩
   | str b=>obtain rfl:y = .str b:=hy;obtain ⟨t,rfl⟩:=ry;unfold eqD;exact ⟨RcAt.tuple_str b t p hu0,EqAt.tuple_str b t p hu0⟩
   | lst es=>obtain ⟨b,ys,rfl,hq',_⟩:=hy;obtain rfl:v=Value.ref b:=ry;obtain ⟨its',_,p',_⟩:=I.list hq';unfold eqD;exact ⟨RcAt.tuple_list p p'.isList hu0,EqAt.tuple_list p p'.isList hu0⟩
   | tup es=>
    have hy0:=hy
    obtain ⟨b,ys,rfl,hq',hl'⟩:=hy
    obtain rfl:v=Value.ref b:=ry
    obtain ⟨its',rv',p',_⟩:=I.tuple hq'
    have p':s.heap.IsTuple b its'.toArray:=p'
    have he:=kH (A:=A.in1) (s:=s) hl rv hl' rv' (fun d e x y u v ⟨j,hj⟩ r1 r2 s1 s2=>(ih A.in1 d e x y u v (Nat.le_trans (nI hj) hdd) (by show A.units+1+n<cLine;omega) r1 r2 s1 s2).2)
    have rc:=RcAt.tuples p p' hu0 he
    have l1:=hl.length
    have l2:=rv.length
    have l3:=hl'.length
    have l4:=rv'.length
    rw [List.size_toArray,List.size_toArray,← l2,← l4,← l1,← l3,iZ] at rc
    unfold eqD
    refine ⟨rc,?_⟩
    by_cases hab:a=b
    ·subst hab
     have:=I.sh_inj hx0 hy0
     cases this
     rw [eV]
     exact EqAt.same _
    ·exact EqAt.of_refs hab rc
  | lst ds=>
   have hdd:oC ds≤n:=by unfold dep at hd;omega
   have hx0:=hx
   obtain ⟨a,xs,rfl,hq,hl⟩:=hx
   obtain rfl:u=Value.ref a:=rx
   obtain ⟨its,rv,p,_⟩:=I.list hq
   have p:=p.isList
   cases e with
   | non=>obtain rfl:y = .non:=hy;obtain rfl:v=Value.none:=ry;unfold eqD;exact ⟨RcAt.list_none p hu0,EqAt.list_none p hu0⟩
   | bl b=>obtain rfl:y = .bl b:=hy;obtain rfl:v=Value.bool b:=ry;unfold eqD;exact ⟨RcAt.list_bool b p hu0,EqAt.list_bool b p hu0⟩
   | int b=>obtain rfl:y = .int b:=hy;obtain ⟨t,rfl⟩:=ry;unfold eqD;exact ⟨RcAt.list_int b t p hu0,EqAt.list_int b t p hu0⟩
   | str b=>obtain rfl:y = .str b:=hy;obtain ⟨t,rfl⟩:=ry;unfold eqD;exact ⟨RcAt.list_str b t p hu0,EqAt.list_str b t p hu0⟩
   | tup es=>obtain ⟨b,ys,rfl,hq',_⟩:=hy;obtain rfl:v=Value.ref b:=ry;obtain ⟨its',_,p',_⟩:=I.tuple hq';unfold eqD;exact ⟨RcAt.list_tuple p (show s.heap.IsTuple b its'.toArray from p') hu0,EqAt.list_tuple p (show s.heap.IsTuple b its'.toArray from p') hu0⟩
   | lst es=>
    have hy0:=hy
    obtain ⟨b,ys,rfl,hq',hl'⟩:=hy
    obtain rfl:v=Value.ref b:=ry
    obtain ⟨its',rv',p',_⟩:=I.list hq'
    have p':=p'.isList
    have l1:=hl.length
    have l2:=rv.length
    have l3:=hl'.length
    have l4:=rv'.length
    have rc:RcAt A s (.ref a) (.ref b) (eqL ds es):=by
     by_cases hz:ds.length=es.length
     ·have he:=kH (A:=A.in1) (s:=s) hl rv hl' rv' (fun d e x y u v ⟨j,hj⟩ r1 r2 s1 s2=>(ih A.in1 d e x y u v (Nat.le_trans (nI hj) hdd) (by show A.units+1+n<cLine;omega) r1 r2 s1 s2).2)
      have rc:=RcAt.lists p p' (by rw [List.size_toArray,List.size_toArray];omega) hu0 he
      rw [List.size_toArray,← l2,← l1] at rc
      have q:=iZ ds es
      rw [← hz,Nat.min_self,beq_self_eq_true,Bool.and_true] at q
      rw [← q]
      exact rc
     ·have q:eqL ds es=false:=by
       cases q:eqL ds es with
       | false=>rfl
       | true=>exact absurd (jB q) hz
      rw [q]
      exact RcAt.lists_lengths p p' (by rw [List.size_toArray,List.size_toArray];simp;omega) hu0
    unfold eqD
    refine ⟨rc,?_⟩
    by_cases hab:a=b
    ·subst hab
     have:=I.sh_inj hx0 hy0
     cases this
     rw [eV]
     exact EqAt.same _
    ·exact EqAt.of_refs hab rc
noncomputable def gF (K:PySem.W.Frag):R2:=fun x y H Q=>∃ d e,dep d≤100∧Sh K H d x∧Sh K H e y∧Q (.bl (eqD d e)) H
theorem aAM (hu:X.A.units+100<cLine):OpR X (compareOp .Eq) (gF X.K):=by
 intro pins s σ H x y v u Q I rx ry ⟨d,e,hd,hx,hy,q⟩
 exact (I.eq_sh 100 X.A d e x y v u hd hu rx ry hx hy).1 X.prog X.w X.xe _ ⟨.bl _,H,I,rfl,q⟩
end
end L2
namespace L2
open PySem PySem.Spec PyProof.Rows
section
variable {X:Cx}{pins:List (Addr × Obj)}{σ:St}{H:Hp}{s:Shared}
open PySem.SeqAt
theorem Inv.ne_sh (I:Inv X pins σ H s){A:Around}(d e:Dt)(x y:V)(u v:Value)(hd:dep d≤100)(hu:A.units+101<cLine)(rx:RelV x u)(ry:RelV y v)(hx:Sh X.K H d x)(hy:Sh X.K H e y):RcNeAt A s u v (!eqD d e):=by
 have hu0:A.units<cLine:=by omega
 cases d with
 | non=>
  obtain rfl:x = .non:=hx
  obtain rfl:u=Value.none:=rx
  cases e with
  | non=>obtain rfl:y = .non:=hy;obtain rfl:v=Value.none:=ry;unfold eqD;exact RcNeAt.none_none
  | bl b=>obtain rfl:y = .bl b:=hy;obtain rfl:v=Value.bool b:=ry;unfold eqD;exact RcNeAt.none_bool b
  | int b=>obtain rfl:y = .int b:=hy;obtain ⟨t,rfl⟩:=ry;unfold eqD;exact RcNeAt.none_int b t
  | str b=>obtain rfl:y = .str b:=hy;obtain ⟨t,rfl⟩:=ry;unfold eqD;exact RcNeAt.none_str b t
  | tup es=>obtain ⟨b,ys,rfl,hq,_⟩:=hy;obtain rfl:v=Value.ref b:=ry;obtain ⟨its,_,p,_⟩:=I.tuple hq;unfold eqD;exact RcNeAt.none_tuple (show s.heap.IsTuple b its.toArray from p) hu0
  | lst es=>obtain ⟨b,ys,rfl,hq,_⟩:=hy;obtain rfl:v=Value.ref b:=ry;obtain ⟨its,_,p,_⟩:=I.list hq;unfold eqD;exact RcNeAt.none_list p.isList hu0
 | bl a=>
  obtain rfl:x = .bl a:=hx
  obtain rfl:u=Value.bool a:=rx
  cases e with
  | non=>obtain rfl:y = .non:=hy;obtain rfl:v=Value.none:=ry;unfold eqD;exact RcNeAt.bool_none a
  | bl b=>obtain rfl:y = .bl b:=hy;obtain rfl:v=Value.bool b:=ry;unfold eqD;exact RcNeAt.bool_bool a b
  | int b=>obtain rfl:y = .int b:=hy;obtain ⟨t,rfl⟩:=ry;unfold eqD;exact RcNeAt.bool_int a b t
  | str b=>obtain rfl:y = .str b:=hy;obtain ⟨t,rfl⟩:=ry;unfold eqD;exact RcNeAt.bool_str a b t
  | tup es=>obtain ⟨b,ys,rfl,hq,_⟩:=hy;obtain rfl:v=Value.ref b:=ry;obtain ⟨its,_,p,_⟩:=I.tuple hq;unfold eqD;exact RcNeAt.bool_tuple a (show s.heap.IsTuple b its.toArray from p) hu0
  | lst es=>obtain ⟨b,ys,rfl,hq,_⟩:=hy;obtain rfl:v=Value.ref b:=ry;obtain ⟨its,_,p,_⟩:=I.list hq;unfold eqD;exact RcNeAt.bool_list a p.isList hu0
 | int a=>
  obtain rfl:x = .int a:=hx
  obtain ⟨t0,rfl⟩:=rx
  cases e with
  | non=>obtain rfl:y = .non:=hy;obtain rfl:v=Value.none:=ry;unfold eqD;exact RcNeAt.int_none a t0
  | bl b=>obtain rfl:y = .bl b:=hy;obtain rfl:v=Value.bool b:=ry;unfold eqD;exact RcNeAt.int_bool a t0 b
  | int b=>obtain rfl:y = .int b:=hy;obtain ⟨t,rfl⟩:=ry;unfold eqD;exact RcNeAt.int_int a t0 b t
  | str b=>obtain rfl:y = .str b:=hy;obtain ⟨t,rfl⟩:=ry;unfold eqD;exact RcNeAt.int_str a t0 b t
  | tup es=>obtain ⟨b,ys,rfl,hq,_⟩:=hy;obtain rfl:v=Value.ref b:=ry;obtain ⟨its,_,p,_⟩:=I.tuple hq;unfold eqD;exact RcNeAt.int_tuple a t0 (show s.heap.IsTuple b its.toArray from p) hu0
  | lst es=>obtain ⟨b,ys,rfl,hq,_⟩:=hy;obtain rfl:v=Value.ref b:=ry;obtain ⟨its,_,p,_⟩:=I.list hq;unfold eqD;exact RcNeAt.int_list a t0 p.isList hu0
 | str a=>
  obtain rfl:x = .str a:=hx
  obtain ⟨t0,rfl⟩:=rx
  cases e with
  | non=>obtain rfl:y = .non:=hy;obtain rfl:v=Value.none:=ry;unfold eqD;exact RcNeAt.str_none a t0
  | bl b=>obtain rfl:y = .bl b:=hy;obtain rfl:v=Value.bool b:=ry;unfold eqD;exact RcNeAt.str_bool a t0 b
  | int b=>obtain rfl:y = .int b:=hy;obtain ⟨t,rfl⟩:=ry;unfold eqD;exact RcNeAt.str_int a t0 b t
  | str b=>obtain rfl:y = .str b:=hy;obtain ⟨t,rfl⟩:=ry;unfold eqD;exact RcNeAt.str_str a t0 b t
  | tup es=>obtain ⟨b,ys,rfl,hq,_⟩:=hy;obtain rfl:v=Value.ref b:=ry;obtain ⟨its,_,p,_⟩:=I.tuple hq;unfold eqD;exact RcNeAt.str_tuple a t0 (show s.heap.IsTuple b its.toArray from p) hu0
  | lst es=>obtain ⟨b,ys,rfl,hq,_⟩:=hy;obtain rfl:v=Value.ref b:=ry;obtain ⟨its,_,p,_⟩:=I.list hq;unfold eqD;exact RcNeAt.str_list a t0 p.isList hu0
 | tup ds=>
  have hdd:oC ds≤100:=by unfold dep at hd;omega
  obtain ⟨a,xs,rfl,hq,hl⟩:=hx
  obtain rfl:u=Value.ref a:=rx
  obtain ⟨its,rv,p,_⟩:=I.tuple hq
  have p:s.heap.IsTuple a its.toArray:=p
  cases e with
  | non=>obtain rfl:y = .non:=hy;obtain rfl:v=Value.none:=ry;unfold eqD;exact RcNeAt.tuple_none p hu0
  | bl b=>obtain rfl:y = .bl b:=hy;obtain rfl:v=Value.bool b:=ry;unfold eqD;exact RcNeAt.tuple_bool b p hu0
  | int b=>obtain rfl:y = .int b:=hy;obtain ⟨t,rfl⟩:=ry;unfold eqD;exact RcNeAt.tuple_int b t p hu0
  | str b=>obtain rfl:y = .str b:=hy;obtain ⟨t,rfl⟩:=ry;unfold eqD;exact RcNeAt.tuple_str b t p hu0
  | lst es=>obtain ⟨b,ys,rfl,hq',_⟩:=hy;obtain rfl:v=Value.ref b:=ry;obtain ⟨its',_,p',_⟩:=I.list hq';unfold eqD;exact RcNeAt.tuple_list p p'.isList hu0
  | tup es=>
   obtain ⟨b,ys,rfl,hq',hl'⟩:=hy
   obtain rfl:v=Value.ref b:=ry
   obtain ⟨its',rv',p',_⟩:=I.tuple hq'
   have p':s.heap.IsTuple b its'.toArray:=p'
   have he:=kH (A:=A.in1) (s:=s) hl rv hl' rv' (fun d e x y u v ⟨j,hj⟩ r1 r2 s1 s2=>(I.eq_sh 100 A.in1 d e x y u v (Nat.le_trans (nI hj) hdd) (by show A.units+1+100<cLine;omega) r1 r2 s1 s2).2)
   have rc:=RcNeAt.tuples p p' hu0 he
   have l1:=hl.length
   have l2:=rv.length
   have l3:=hl'.length
   have l4:=rv'.length
   rw [List.size_toArray,List.size_toArray,← l2,← l4,← l1,← l3,iZ] at rc
   unfold eqD
   exact rc
 | lst ds=>
  have hdd:oC ds≤100:=by unfold dep at hd;omega
  obtain ⟨a,xs,rfl,hq,hl⟩:=hx
  obtain rfl:u=Value.ref a:=rx
  obtain ⟨its,rv,p,_⟩:=I.list hq
  have p:=p.isList
  cases e with
  | non=>obtain rfl:y = .non:=hy;obtain rfl:v=Value.none:=ry;unfold eqD;exact RcNeAt.list_none p hu0
  | bl b=>obtain rfl:y = .bl b:=hy;obtain rfl:v=Value.bool b:=ry;unfold eqD;exact RcNeAt.list_bool b p hu0
  | int b=>obtain rfl:y = .int b:=hy;obtain ⟨t,rfl⟩:=ry;unfold eqD;exact RcNeAt.list_int b t p hu0
  | str b=>obtain rfl:y = .str b:=hy;obtain ⟨t,rfl⟩:=ry;unfold eqD;exact RcNeAt.list_str b t p hu0
  | tup es=>obtain ⟨b,ys,rfl,hq',_⟩:=hy;obtain rfl:v=Value.ref b:=ry;obtain ⟨its',_,p',_⟩:=I.tuple hq';unfold eqD;exact RcNeAt.list_tuple p (show s.heap.IsTuple b its'.toArray from p') hu0
  | lst es=>
   obtain ⟨b,ys,rfl,hq',hl'⟩:=hy
   obtain rfl:v=Value.ref b:=ry
   obtain ⟨its',rv',p',_⟩:=I.list hq'
   have p':=p'.isList
   have l1:=hl.length
   have l2:=rv.length
   have l3:=hl'.length
   have l4:=rv'.length
   unfold eqD
   by_cases hz:ds.length=es.length
   ·have he:=kH (A:=A.in1) (s:=s) hl rv hl' rv' (fun d e x y u v ⟨j,hj⟩ r1 r2 s1 s2=>(I.eq_sh 100 A.in1 d e x y u v (Nat.le_trans (nI hj) hdd) (by show A.units+1+100<cLine;omega) r1 r2 s1 s2).2)
    have rc:=RcNeAt.lists p p' (by rw [List.size_toArray,List.size_toArray];omega) hu0 he
    rw [List.size_toArray,← l2,← l1] at rc
    have q:=iZ ds es
    rw [← hz,Nat.min_self,beq_self_eq_true,Bool.and_true] at q
    rw [← q]
    exact rc
   ·have q:eqL ds es=false:=by
     cases q:eqL ds es with
     | false=>rfl
     | true=>exact absurd (jB q) hz
    rw [q]
    exact RcNeAt.lists_lengths p p' (by rw [List.size_toArray,List.size_toArray];simp;omega) hu0
noncomputable def zA (K:PySem.W.Frag):R2:=fun x y H Q=>∃ d e,dep d≤100∧Sh K H d x∧Sh K H e y∧Q (.bl (!eqD d e)) H
theorem aBa (hu:X.A.units+101<cLine):OpR X (compareOp .NotEq) (zA X.K):=by
 intro pins s σ H x y v u Q I rx ry ⟨d,e,hd,hx,hy,q⟩
 exact (I.ne_sh d e x y v u hd hu rx ry hx hy) X.prog X.w X.xe _ ⟨.bl _,H,I,rfl,q⟩
noncomputable def aCa:Dt→String→Bool
 | .non,_=>false
 | .bl _,T=>T == "bool" || T == "int"
 | .int _,T=>T == "int"
 | .str _,T=>T == "str"
 | .tup _,T=>T == "tuple"
 | .lst _,T=>T == "list"
noncomputable def zS (K:PySem.W.Frag):List V→Hp→VK→Prop:=fun vs H Q=>∃ x d T,vs=[x, .ty T]∧(T="int"∨T="bool"∨T="tuple"∨T="list"∨T="str")∧Sh K H d x∧Q (.bl (aCa d T)) H
theorem yE:CallR X (.builtin "isinstance") (zS X.K):=by
 intro pins s σ H xs us Q I r ⟨x,d,T,e,hT,hx,q⟩
 subst e
 obtain ⟨u,w',rfl,rx,rt⟩:=r.two
 obtain rfl:w'=Value.type T:=rt
 have fin:∀ (b:Bool) (t:Nat),aCa d T=b→EP X pins σ Q (.bool b) { s with toks:=t }:=fun b t e=>⟨.bl b,H,I.tok t,rfl,by rw [← e];exact q⟩
 have fin0:∀ (b:Bool),aCa d T=b→EP X pins σ Q (.bool b) s:=fun b e=>⟨.bl b,H,I,rfl,by rw [← e];exact q⟩
 cases d with
 | non=>
  obtain rfl:x = .non:=hx
  obtain rfl:u=Value.none:=rx
  rcases hT with rfl | rfl | rfl | rfl | rfl
  ·exact IsiPair.NoneType_int (fin _ _ rfl)
  ·exact IsiPair.NoneType_bool (fin _ _ rfl)
  ·exact IsiPair.NoneType_tuple (fin _ _ rfl)
  ·exact IsiPair.NoneType_list (fin _ _ rfl)
  ·exact IsiPair.NoneType_str (fin _ _ rfl)
 | bl b=>
  obtain rfl:x = .bl b:=hx
  obtain rfl:u=Value.bool b:=rx
  rcases hT with rfl | rfl | rfl | rfl | rfl
  ·exact IsiPair.bool_int (fin0 _ rfl)
  ·exact IsiPair.bool_bool (fin0 _ rfl)
  ·exact IsiPair.bool_tuple (fin _ _ rfl)
  ·exact IsiPair.bool_list (fin _ _ rfl)
  ·exact IsiPair.bool_str (fin _ _ rfl)
 | int b=>
  obtain rfl:x = .int b:=hx
  obtain ⟨t,rfl⟩:=rx
  rcases hT with rfl | rfl | rfl | rfl | rfl
  ·exact IsiPair.int_int (fin0 _ rfl)
  ·exact IsiPair.int_bool (fin _ _ rfl)
  ·exact IsiPair.int_tuple (fin _ _ rfl)
  ·exact IsiPair.int_list (fin _ _ rfl)
  ·exact IsiPair.int_str (fin _ _ rfl)
 | str b=>
  obtain rfl:x = .str b:=hx
  obtain ⟨t,rfl⟩:=rx
  rcases hT with rfl | rfl | rfl | rfl | rfl
  ·exact IsiPair.str_int (fin _ _ rfl)
  ·exact IsiPair.str_bool (fin _ _ rfl)
  ·exact IsiPair.str_tuple (fin _ _ rfl)
  ·exact IsiPair.str_list (fin _ _ rfl)
  ·exact IsiPair.str_str (fin0 _ rfl)
 | tup ds=>
  obtain ⟨a,ys,rfl,hq,_⟩:=hx
  obtain rfl:u=Value.ref a:=rx
  obtain ⟨its,_,⟨o,ho,hc,_⟩,_⟩:=I.tuple hq
  rcases hT with rfl | rfl | rfl | rfl | rfl
  ·exact IsiPair.tuple_int ho hc (fin _ _ rfl)
  ·exact IsiPair.tuple_bool ho hc (fin _ _ rfl)
  ·exact IsiPair.tuple_tuple ho hc (fin0 _ rfl)
  ·exact IsiPair.tuple_list ho hc (fin _ _ rfl)
  ·exact IsiPair.tuple_str ho hc (fin _ _ rfl)
 | lst ds=>
  obtain ⟨a,ys,rfl,hq,_⟩:=hx
  obtain rfl:u=Value.ref a:=rx
  obtain ⟨its,_,p,_⟩:=I.list hq
  obtain ⟨o,ho,hc,_⟩:=p.isList
  rcases hT with rfl | rfl | rfl | rfl | rfl
  ·exact IsiPair.list_int ho hc (fin _ _ rfl)
  ·exact IsiPair.list_bool ho hc (fin _ _ rfl)
  ·exact IsiPair.list_tuple ho hc (fin _ _ rfl)
  ·exact IsiPair.list_list ho hc (fin0 _ rfl)
  ·exact IsiPair.list_str ho hc (fin _ _ rfl)
theorem rK {prog:Program}{w:World}{A:Around}(hh:A.handled=none)(It ax:Addr)(hne:ax≠It)(items:Array Value) :
  Walks prog w A It [It,ax] [It] items.size (fun i v=>items[i]?=some v) (fun i h=>h.IsTupleIter It ax i∧h.IsTuple ax items) where
 sub:=fun b hb=>by simp at hb;simp [hb]
 frame:=fun _ _ _ st hk=>⟨st.1.at fun o e=>hk It (by simp) o e,let ⟨o,e,r⟩:=st.2;⟨o,hk ax (by simp) o e,r⟩⟩
 item:=fun i s Q E hi st hQ=>by
  refine wpAny_pyNext_tuple_item st.1 st.2 (x:=items[i]) (by simp [hi]) fun h' hit' hs'=>?_
  refine hQ _ h' s.toks (by simp [hi]) ⟨hit',?_⟩ fun b o hb e=>hs'.extBut b o (fun h=>hb (by simp [h])) e
  obtain ⟨o,e,r⟩:=st.2
  exact ⟨o,hs'.extBut _ _ hne e,r⟩
 done:=fun s Q E st hQ=>wpAny_pyNext_tuple_end hh st.1 st.2 (by simp) fun h' he'=>hQ h' s.toks fun b o hb e=>he' b o (fun h=>hb (by simp [h])) e
 self:=fun _ _ _ _ st hQ=>wpAny_pyIter_tupleiter st.1 hQ
noncomputable def Sq (K:PySem.W.Frag) (H:Hp) (a:Addr) (xs:List V):Prop:=SqL K H a xs∨SqT K H a xs
theorem iQ {A:Around}{a:Addr}{xs:List V}{Q:Value→Shared→Prop}{E:Value→Shared→Prop}(hh:A.handled=none)(I:Inv X pins σ H s)(h:Sq X.K H a xs)
  (hq:∀ (its:List Value) (It:Addr) (fp wr:List Addr) (S:Nat→Heap→Prop) (s2:Shared),Vals xs its→xs.length≤sizeLine→Walks X.prog X.w A It fp wr its.length (fun i v=>its[i]?=some v) S→S 0 s2.heap→(∀ b∈fp,b<s2.heap.objs.size) →
   (∀ h' tk,(∀ b o,b∉wr→s2.heap.get? b=some o→h'.get? b=some o)→Inv X pins σ H { s2 with heap:=h',toks:=tk })→Q (.ref It) s2):wpAny (model X.prog X.w) A (pyIter (.ref a)) Q E s:=by
 rcases h with h | h
 ·obtain ⟨its,rv,p,hz⟩:=I.list h
  refine wpAny_pyIter_list p.isList ?_
  have ha:a<s.heap.objs.size:=by obtain ⟨o,e,_⟩:=p.isList;exact Heap.lt_size e
  refine hq its s.heap.objs.size [s.heap.objs.size,a] [s.heap.objs.size] (fun i h=>h.IsListIter s.heap.objs.size a i∧h.IsList a its.toArray) _ rv hz (by simpa using Walks.list (prog:=X.prog) (w:=X.w) hh s.heap.objs.size a (Nat.ne_of_lt ha) its.toArray) ⟨⟨_,Heap.get?_push_size _ rfl,rfl,rfl⟩,?_⟩ (fun b hb=>?_) fun h' tk hk=>?_
  ·obtain ⟨o,e,r⟩:=p.isList
   exact ⟨o,Heap.get?_push_of_some _ e,r⟩
  ·simp at hb
   show b<(s.heap.push _).objs.size
   rw [Heap.size_push]
   rcases hb with rfl | rfl
   ·exact Nat.lt_succ_self _
   ·exact Nat.lt_succ_of_lt ha
  ·exact I.kept fun b o e=>hk b o (by simpa using Nat.ne_of_lt (Heap.lt_size e)) (Heap.get?_push_of_some _ e)
 ·obtain ⟨its,rv,p,hz⟩:=I.tuple h
  have p:s.heap.IsTuple a its.toArray:=p
  refine wpAny_pyIter_tuple p ?_
  have ha:a<s.heap.objs.size:=by obtain ⟨o,e,_⟩:=p;exact Heap.lt_size e
  refine hq its s.heap.objs.size [s.heap.objs.size,a] [s.heap.objs.size] (fun i h=>h.IsTupleIter s.heap.objs.size a i∧h.IsTuple a its.toArray) _ rv hz (by simpa using rK (prog:=X.prog) (w:=X.w) hh s.heap.objs.size a (Nat.ne_of_lt ha) its.toArray) ⟨⟨_,Heap.get?_push_size _ rfl,rfl,rfl⟩,?_⟩ (fun b hb=>?_) fun h' tk hk=>?_
  ·obtain ⟨o,e,r⟩:=p
   exact ⟨o,Heap.get?_push_of_some _ e,r⟩
  ·simp at hb
   show b<(s.heap.push _).objs.size
   rw [Heap.size_push]
   rcases hb with rfl | rfl
   ·exact Nat.lt_succ_self _
   ·exact Nat.lt_succ_of_lt ha
  ·exact I.kept fun b o e=>hk b o (by simpa using Nat.ne_of_lt (Heap.lt_size e)) (Heap.get?_push_of_some _ e)
theorem Vals.getR:∀ {xs:List V} {us:List Value} {i:Nat} {u:Value},Vals xs us→us[i]?=some u→∃ x,xs[i]?=some x∧RelV x u
 | _,_,_,_, .nil,e=>by simp at e
 | _,_,0,_, .cons r _,e=>by simp at e;subst e;exact ⟨_,rfl,r⟩
 | _,_,i+1,u, .cons _ t,e=>by
  obtain ⟨x,h1,h2⟩:=Vals.getR (i:=i) (u:=u) t (by simpa using e)
  exact ⟨x,by simpa using h1,h2⟩
theorem wQ (hc:X.calm=true):CallR X (.builtin "all") (fun vs H Q=>∃ (a:Addr) (bs:List Bool),vs=[.ref a]∧Sq X.K H a (bs.map V.bl)∧Q (.bl (bs.all id)) H):=by
 intro pins s σ H xs us Q I r ⟨a,bs,e,hq,q⟩
 subst e
 obtain ⟨u,rfl,ru⟩:=r.one
 obtain rfl:u=Value.ref a:=ru
 refine call_all_walk (iQ (I.ok.hd hc) I hq fun its It fp wr S s2 rv hz W st hf hI=>?_)
 refine ⟨It,fp,wr,its.length,_,S,fun j=>bs.getD j false,rfl,W,st,fun i v s' Q' E' hv hQ'=>?_,fun h' tk hk=>?_⟩
 ·obtain ⟨x,hx,rx⟩:=rv.getR hv
  rw [List.getElem?_map] at hx
  cases hb:bs[i]? with
  | none=>rw [hb] at hx;cases hx
  | some b=>
   rw [hb] at hx
   obtain rfl:V.bl b=x:=by simpa using hx
   obtain rfl:v=Value.bool b:=rx
   have:bs.getD i false=b:=by rw [List.getD_eq_getElem?_getD,hb];rfl
   have hQ':Q' (bs.getD i false) s':=hQ'
   rw [this] at hQ'
   exact wpAny_truthy_bool hQ'
 ·refine ⟨.bl (bs.all id),H,hI h' tk hk,?_,q⟩
  show Value.bool _=Value.bool _
  congr 1
  have hl:its.length=bs.length:=by rw [← rv.length,List.length_map]
  rw [hl]
  clear q hq rv hl hz
  induction bs with
  | nil=>rfl
  | cons b bs ih=>rw [List.length_cons,gQ,List.all_cons];exact congrArg (fun z=>b && z) ih
theorem kY:∀ (ns:List Int) (k:Nat),k≤ns.length→preSum (fun j=>ns.getD j 0) k=(ns.take k).sum
 | ns,0,_=>by simp [preSum]
 | ns,k+1,h=>by
  have e:ns.take (k+1)=ns.take k++[ns[k]]:=by
   rw [List.take_add_one,List.getElem?_eq_getElem (by omega)];rfl
  have g:ns.getD k 0=ns[k]:=by rw [List.getD_eq_getElem?_getD,List.getElem?_eq_getElem (by omega)];rfl
  rw [preSum,kY ns k (by omega),e,List.sum_append_int,g]
  simp
theorem yJ (hc:X.calm=true):CallR X (.builtin "sum") (fun vs H Q=>∃ (a:Addr) (ns:List Int),vs=[.ref a]∧Sq X.K H a (ns.map V.int)∧Q (.int ns.sum) H):=by
 intro pins s σ H xs us Q I r ⟨a,ns,e,hq,q⟩
 subst e
 obtain ⟨u,rfl,ru⟩:=r.one
 obtain rfl:u=Value.ref a:=ru
 refine call_sum_walkG (iQ (I.ok.hd hc) I hq fun its It fp wr S s2 rv hz W st hf hI=>?_)
 refine ⟨It,fp,wr,its.length,_,S,fun j=>ns.getD j 0,rfl,W,st,hf,fun i v hv=>?_,fun h' tk t' hk=>?_⟩
 ·obtain ⟨x,hx,rx⟩:=rv.getR hv
  rw [List.getElem?_map] at hx
  cases hb:ns[i]? with
  | none=>rw [hb] at hx;cases hx
  | some b=>
   rw [hb] at hx
   obtain rfl:V.int b=x:=by simpa using hx
   obtain ⟨t,rfl⟩:=rx
   exact ⟨t,by show Value.int b t=Value.int (ns.getD i 0) t;rw [List.getD_eq_getElem?_getD,hb];rfl⟩
 ·have hl:its.length=ns.length:=by rw [← rv.length,List.length_map]
  refine ⟨.int ns.sum,H,hI h' tk hk,⟨t',?_⟩,q⟩
  rw [hl,kY ns ns.length (Nat.le_refl _),List.take_length]
theorem mO {bt:Nat→Nat→Bool}:∀ k,argBest bt k≤k
 | 0=>Nat.le_refl _
 | k+1=>by
  unfold argBest
  split
  ·exact Nat.le_refl _
  ·exact Nat.le_succ_of_le (mO k)
theorem iM {ns:List Int}:∀ (k:Nat),∀ j,j≤k→ns.getD (argBest (fun i j=>decide (ns.getD i 0<ns.getD j 0)) k) 0≤ns.getD j 0
 | 0,j,h=>by
  have:j=0:=by omega
  subst this
  exact Int.le_refl _
 | k+1,j,h=>by
  have ih:=iM (ns:=ns) k
  unfold argBest
  by_cases c:ns.getD (k+1) 0<ns.getD (argBest (fun i j=>decide (ns.getD i 0<ns.getD j 0)) k) 0
  ·rw [if_pos (decide_eq_true c)]
   by_cases e:j=k+1
   ·subst e;exact Int.le_refl _
   ·have:=ih j (by omega);omega
  ·rw [if_neg (by simpa using c)]
   by_cases e:j=k+1
   ·subst e;omega
   ·exact ih j (by omega)
theorem yB (hc:X.calm=true):CallR X (.builtin "min") (fun vs H Q=>∃ (a:Addr) (ns:List Int),vs=[.ref a]∧Sq X.K H a (ns.map V.int)∧ns≠[]∧∀ m:Int,m∈ns→(∀ k∈ns,m≤k)→Q (.int m) H):=by
 intro pins s σ H xs us Q I r ⟨a,ns,e,hq,hne,q⟩
 subst e
 obtain ⟨u,rfl,ru⟩:=r.one
 obtain rfl:u=Value.ref a:=ru
 refine call_min_walk (iQ (I.ok.hd hc) I hq fun its It fp wr S s2 rv hz W st hf hI=>?_)
 have hl:its.length=ns.length:=by rw [← rv.length,List.length_map]
 have hpos:0<ns.length:=List.length_pos_iff.mpr hne
 have item:∀ (i:Nat) (v:Value),its[i]?=some v→∃ t,v = .int (ns.getD i 0) t:=fun i v hv=>by
  obtain ⟨x,hx,rx⟩:=rv.getR hv
  rw [List.getElem?_map] at hx
  cases hb:ns[i]? with
  | none=>rw [hb] at hx;cases hx
  | some b=>
   rw [hb] at hx
   obtain rfl:V.int b=x:=by simpa using hx
   obtain ⟨t,rfl⟩:=rx
   exact ⟨t,by rw [List.getD_eq_getElem?_getD,hb];rfl⟩
 refine ⟨It,fp,wr,its.length,_,S,fun i j=>decide (ns.getD i 0<ns.getD j 0),rfl,W,st,hf,by omega,fun i j vi vj s' Q' E' hi hj hQ'=>?_,fun v h' tk hv hk=>?_⟩
 ·obtain ⟨t,rfl⟩:=item i vi hi
  obtain ⟨t',rfl⟩:=item j vj hj
  exact (lt_int hQ':wpAny (model X.prog X.w) X.A.in1 (compareOp .Lt _ _) Q' E' s')
 ·obtain ⟨t,rfl⟩:=item _ v hv
  have hb:=mO (bt:=fun i j=>decide (ns.getD i 0<ns.getD j 0)) (its.length - 1)
  refine ⟨.int _,H,hI h' tk hk,⟨t,rfl⟩,q _ ?_ fun k hk=>?_⟩
  ·rw [List.getD_eq_getElem?_getD,List.getElem?_eq_getElem (by omega)]
   exact List.getElem_mem _
  ·obtain ⟨j,hj,rfl⟩:=List.mem_iff_getElem.mp hk
   have:=iM (ns:=ns) (its.length - 1) j (by omega)
   rw [List.getD_eq_getElem?_getD (l:=ns) (i:=j),List.getElem?_eq_getElem hj] at this
   exact this
end
end L2
namespace L2
open PySem PySem.Spec PyProof.Rows
section
variable {X:Cx}
noncomputable def aAR (K:PySem.W.Frag):R2:=fun x y H Q=>∃ a b xs ys,x = .ref a∧y = .ref b∧SqT K H a xs∧SqT K H b ys∧xs.length+ys.length≤sizeLine ∧
 ∀ p H',((p=a∧H'=H∧ys=[])∨(p=b∧H'=H∧xs=[])∨(H p=none∧H'=upd H p (.tup (xs++ys))))→SqT K H' p (xs++ys)→Same H H'→Q (.ref p) H'
theorem aJ {H:Hp}{p:Addr}(h:H p=none)(o:HO):Same H (upd H p o):=fun b u q=>by rw [aP (aQ q h)];exact q
theorem aAn:OpR X (binaryOp .Add) (aAR X.K):=by
 intro pins s σ H x y v u Q I rx ry ⟨a,b,xs,ys,ex,ey,ha,hb,hz,q⟩
 subst ex ey
 obtain rfl:v=Value.ref a:=rx
 obtain rfl:u=Value.ref b:=ry
 by_cases hx:xs=[]
 ·obtain ⟨its,r1,p1,_⟩:=I.tuple ha
  obtain ⟨its2,r2,p2,_⟩:=I.tuple hb
  have he:its=[]:=r1.nil_iff.mpr hx
  obtain ⟨⟨cls,dd,data,sl⟩,ho,hc,n,hd⟩:=id p1
  obtain ⟨⟨cls2,dd2,data2,sl2⟩,ho2,hc2,n2,hd2⟩:=id p2
  simp only at hc hd hc2 hd2
  subst hc hd hc2 hd2
  refine concat_meets ⟨_,ho,rfl⟩ ⟨_,ho2,rfl⟩ noFill_tuple_add seq_tuple_add PySem.F.slot_tuple_add PySem.F.entry_tuple_add (PySem.F.args_tuple_add_2 _ _)
   (tuple_addW0 a b its.toArray its2.toArray n n2 dd dd2 sl sl2 (by simp [he])) ⟨ho,ho2,?_⟩
  exact ⟨.ref b,H,I,rfl,q b H (.inr (.inl ⟨rfl,rfl,hx⟩)) (by rw [hx];exact hb) (Same.refl H)⟩
 ·refine aAt (X:=X) pins s σ H (.ref a) (.ref b) (.ref a) (.ref b) Q I rfl rfl ⟨a,b,xs,ys,rfl,rfl,ha,hb,hx,hz,fun hy=>?_,fun hy p hp=>?_⟩
  ·exact q a H (.inl ⟨rfl,rfl,hy⟩) (by rw [hy,List.append_nil];exact ha) (Same.refl H)
  ·exact q p _ (.inr (.inr ⟨hp,rfl⟩)) (.of aF) (aJ hp _)
noncomputable def bJ (K:PySem.W.Frag):R2:=fun x y H Q=>match x,y with
 | .int i, .int j=>Q (.int (i+j)) H
 | .str i, .str j=>i.length+j.length≤sizeLine∧Q (.str (i++j)) H
 | .ref a, .ref b=>aCP (.ref a) (.ref b) H Q∨aAR K (.ref a) (.ref b) H Q
 | _,_=>False
theorem zN:OpR X (binaryOp .Add) (bJ X.K):=by
 intro pins s σ H x y v u Q I rx ry h
 unfold bJ at h
 split at h
 ·exact aBx (X:=X) pins s σ H _ _ v u Q I rx ry ⟨_,_,rfl,rfl,h⟩
 ·exact sY (X:=X) pins s σ H _ _ v u Q I rx ry ⟨_,_,rfl,rfl,h.1,h.2⟩
 ·rcases h with h | h
  ·exact aBD (X:=X) pins s σ H _ _ v u Q I rx ry h
  ·exact aAn (X:=X) pins s σ H _ _ v u Q I rx ry h
 ·exact h.elim
theorem aCh:IxR X (fun x y H Q=>aBR X.K x y H Q∨aBN X.K x y H Q):=zW.or aAX
theorem Vals.of_get:∀ {xs:List V} {us:List Value},xs.length=us.length→(∀ (i:Nat) x u,xs[i]?=some x→us[i]?=some u→RelV x u)→Vals xs us
 | [],[],_,_ => .nil
 | [],_ :: _,h,_=>by simp at h
 | _ :: _,[],h,_=>by simp at h
 | x :: xs,u :: us,h,hr => .cons (hr 0 x u rfl rfl) (Vals.of_get (by simpa using h) fun i y w h1 h2=>hr (i+1) y w (by simpa using h1) (by simpa using h2))
theorem vY:CallR X (.type "range") (fun vs H Q=>∃ n:Int,vs=[.int n]∧∀ p,H p=none→Q (.ref p) (upd H p (.rng 0 n))):=by
 intro pins s σ H xs us Q I r ⟨n,e,q⟩
 subst e
 obtain ⟨u,rfl,ru⟩:=r.one
 obtain ⟨t,rfl⟩:=ru
 refine call_range_1 ⟨.ref s.heap.objs.size,_,I.laid (a:=s.heap.objs.size) (o := .rng 0 n) (fun b o e=>Heap.get?_push_of_some _ e) (Nat.le_refl _) ⟨_,_,_,Heap.get?_push_size _ rfl⟩,rfl,q _ (I.hok.fresh (Nat.le_refl _))⟩
theorem tZ:CallR X (.type "range") (fun vs H Q=>∃ m n:Int,vs=[.int m, .int n]∧∀ p,H p=none→Q (.ref p) (upd H p (.rng m n))):=by
 intro pins s σ H xs us Q I r ⟨m,n,e,q⟩
 subst e
 obtain ⟨u,u',rfl,ru,ru'⟩:=r.two
 obtain ⟨t,rfl⟩:=ru
 obtain ⟨t',rfl⟩:=ru'
 refine call_range_2 ⟨.ref s.heap.objs.size,_,I.laid (a:=s.heap.objs.size) (o := .rng m n) (fun b o e=>Heap.get?_push_of_some _ e) (Nat.le_refl _) ⟨_,_,_,Heap.get?_push_size _ rfl⟩,rfl,q _ (I.hok.fresh (Nat.le_refl _))⟩
theorem xN:CallR X (.type "range") (fun vs H Q=>(∃ n:Int,vs=[.int n]∧∀ p,H p=none→Q (.ref p) (upd H p (.rng 0 n)))∨∃ m n:Int,vs=[.int m, .int n]∧∀ p,H p=none→Q (.ref p) (upd H p (.rng m n))):=vY.or tZ
noncomputable def wL (lo hi:Int):List Int:=(List.range (hi - lo).toNat).map fun i:Nat=>lo+(i:Int)
theorem nJ (hc:X.calm=true):CallR X (.type "list") (fun vs H Q=>∃ (a:Addr) (lo hi:Int),vs=[.ref a]∧H a=some (.rng lo hi)∧(-(2 ^ 62)≤lo∧lo<2 ^ 62∧-(2 ^ 62)≤hi∧hi<2 ^ 62∧hi - lo≤1000000) ∧
  ∀ p,H p=none→Q (.ref p) (upd H p (.lst ((wL lo hi).map V.int)))):=by
 intro pins s σ H xs us Q I r ⟨a,lo,hi,e,ha,⟨b1,b2,b3,b4,b5⟩,q⟩
 subst e
 obtain ⟨u,rfl,ru⟩:=r.one
 obtain rfl:u=Value.ref a:=ru
 obtain ⟨t,u,v,hr⟩:=I.hok a _ ha
 refine call_list_range (a:=lo) (b:=hi) (c:=1) (n:=(hi - lo).toNat) (I.ok.hd hc) hr (small_one b1 b2 b3 b4) (by rw [rangeSize_one];split <;> omega) (by omega) fun h' tk acc' c' hk hS hI=>?_
 refine ⟨.ref s.heap.objs.size,_,I.laid (a:=s.heap.objs.size) (o := .lst ((wL lo hi).map V.int)) hk (Nat.le_refl _) ⟨?_,acc'.toList,c',?_,by simpa using hS⟩,rfl,q _ (I.hok.fresh (Nat.le_refl _))⟩
 ·rw [List.length_map];unfold wL;rw [List.length_map,List.length_range]
  exact Nat.le_trans (show (hi - lo).toNat≤1000000 by omega) (by decide)
 ·refine Vals.of_get ?_ fun i x u hx hu=>?_
  ·have el:acc'.toList.length=(hi - lo).toNat:=by rw [← hI.1];simp
   rw [List.length_map,el];unfold wL;rw [List.length_map,List.length_range]
  ·obtain ⟨t,rfl⟩:=hI.2 i u (by simpa using hu)
   rw [List.getElem?_map] at hx
   unfold wL at hx
   rw [List.getElem?_map] at hx
   cases hi':(List.range (hi - lo).toNat)[i]? with
   | none=>rw [hi'] at hx;cases hx
   | some j=>
    rw [hi'] at hx
    have:j=i:=by
     obtain ⟨h1,h2⟩:=List.getElem?_eq_some_iff.mp hi'
     simpa using h2.symm
    subst this
    obtain rfl:V.int (lo+(j:Int))=x:=by simpa using hx
    exact ⟨t,by rw [Int.mul_one]⟩
theorem nY (hc:X.calm=true):CallR X (.type "list") (fun vs H Q=>(∃ p ys,vs=[.ref p]∧(SqL X.K H p ys∨SqT X.K H p ys)∧∀ l,H l=none→Q (.ref l) (upd H l (.lst ys))) ∨
  ∃ (a:Addr) (lo hi:Int),vs=[.ref a]∧H a=some (.rng lo hi)∧(-(2 ^ 62)≤lo∧lo<2 ^ 62∧-(2 ^ 62)≤hi∧hi<2 ^ 62∧hi - lo≤1000000)∧∀ p,H p=none→Q (.ref p) (upd H p (.lst ((wL lo hi).map V.int)))):=pV.or (nJ hc)
noncomputable def wH (K:PySem.W.Frag) (tl:TE):TI:=fun σ H R=>tl σ H fun x H1=>∃ a,x = .ref a∧(((∃ xs,SqL K H1 a xs)∧R (Itl K a) H1)∨((∃ xs,SqT K H1 a xs)∧R (Itt K a) H1))
theorem aBb {tg l:Expr}{tl:TE}(hl:PE X l tl):PI X tg l (wH X.K tl):=by
 intro pins s σ H R I h
 refine thn (hl pins s σ H _ I h) fun v s1 ⟨x,H1,I1,r1,q1⟩=>?_
 obtain ⟨a,e,q⟩:=q1
 subst e
 cases r1
 rcases q with ⟨⟨xs,hq⟩,q⟩ | ⟨⟨xs,hq⟩,q⟩
 ·obtain ⟨its,rv,p,hz⟩:=I1.list hq
  refine wpAny_pyIter_list p.isList ?_
  refine ⟨s1.heap.objs.size,[s1.heap.objs.size],_,_,H1,rfl,I1.kept (t':=s1.toks) fun b o e=>Heap.get?_push_of_some _ e,vN a _,⟨_,Heap.get?_push_size _ rfl,rfl,rfl⟩,fun b hb=>?_,q⟩
  have e:b=s1.heap.objs.size:=by simpa using hb
  subst e
  exact I1.fpOk (Nat.le_refl _) (I1.hok.fresh (Nat.le_refl _))
 ·obtain ⟨its,rv,p,hz⟩:=I1.tuple hq
  refine wpAny_pyIter_tuple (show s1.heap.IsTuple a its.toArray from p) ?_
  refine ⟨s1.heap.objs.size,[s1.heap.objs.size],_,_,H1,rfl,I1.kept (t':=s1.toks) fun b o e=>Heap.get?_push_of_some _ e,tD a _,⟨_,Heap.get?_push_size _ rfl,rfl,rfl⟩,fun b hb=>?_,q⟩
  have e:b=s1.heap.objs.size:=by simpa using hb
  subst e
  exact I1.fpOk (Nat.le_refl _) (I1.hok.fresh (Nat.le_refl _))
end
structure Def (P:Program)(w:World)(K:PySem.W.Frag)(mg:Str→Option Value)(base:Heap)(x:Str)(k:Nat)(ps:List Str)(sp:Sp):Prop where
 ex:∃ (f:Addr) (fd:FuncData),FnOk P w K mg base CX0 k f fd ps sp∧mg x=some (.ref f)∧PySem.W.keepIn K (.ref f)=true∧Binds K fd ps []
theorem Def.mono {P:Program}{w:World}{K:PySem.W.Frag}{mg:Str→Option Value}{base:Heap}{x:Str}{j k:Nat}{ps:List Str}{sp:Sp}(D:Def P w K mg base x j ps sp)(h:j≤k):Def P w K mg base x k ps sp:=by
 obtain ⟨f,fd,F,r⟩:=D.ex
 exact ⟨f,fd,F.mono h,r⟩
theorem bS {X:Cx}{x:Str}{k:Nat}{ps:List Str}{sp:Sp}{p pos:Pos}{e:Expr}{es:List Expr}{t:TA}(D:Def X.prog X.w X.K X.mg X.base x k ps sp)(hr:Room k X.A)(hg:Gl X x)(ha:PA X (e :: es) t)
  (hdb:(x == ("__debug__" : Str))=false:=by decide) (he:starEach (e :: es) X.env=(false,eval e X.env) :: starEach es X.env:=by rfl) (hpl:(backTo pos (starEach es X.env)).any (·.1)=false:=by rfl) :
  PE X (.Call (.Name x p) (e :: es) [] pos) (cA sp [] E0 t):=by
 obtain ⟨f,fd,F,hm,hk,hb⟩:=D.ex
 exact tX F hr hg hm hk hb .nil aCm ha hdb he hpl
end L2
namespace L2
open PySem PySem.Spec PyProof.Rows
noncomputable def SameX (acc:Addr) (H H':Hp):Prop:=∀ b o,b≠acc→H b=some o→H' b=some o
theorem SameX.refl (acc:Addr)(H:Hp):SameX acc H H:=fun _ _ _ h=>h
theorem SameX.trans {acc:Addr}{H H1 H2:Hp}(a:SameX acc H H1)(b:SameX acc H1 H2):SameX acc H H2:=fun c o n h=>b c o n (a c o n h)
theorem Same.x {acc:Addr}{H H':Hp}(e:Same H H'):SameX acc H H':=fun b o _ h=>e b o h
theorem SameX.put {acc:Addr}{H:Hp}(o:HO):SameX acc H (upd H acc o):=fun b u n h=>by rw [aP n];exact h
noncomputable def Agree (vars:List Nat) (σ σ':St):Prop:=∀ k,k∉vars→σ'[k]?=σ[k]?
theorem Agree.refl (vars:List Nat)(σ:St):Agree vars σ σ:=fun _ _=>rfl
theorem Agree.trans {vars:List Nat}{σ σ1 σ2:St}(a:Agree vars σ σ1)(b:Agree vars σ1 σ2):Agree vars σ σ2:=fun k h=>(b k h).trans (a k h)
theorem Agree.set {vars:List Nat}{σ:St}{j:Nat}(h:j∈vars)(v:Option V):Agree vars σ (σ.set j v):=fun k hk=>List.getElem?_set_ne (fun e:j=k=>hk (by rw [← e];exact h))
theorem rV {σ:St}{j:Nat}{v:Option V}(h:j<σ.length):(σ.set j v)[j]?=some v:=List.getElem?_set_self h
noncomputable def Emits (vars:List Nat) (tb:TS) (acc:Addr) (σ:St) (H:Hp) (L:List V):Prop:=
 ∀ (D:lO) (pre:List V),H acc=some (.lst pre)→pre.length+L.length≤1000000→(∀ σ' H',σ'.length=σ.length→Agree vars σ σ'→SameX acc H H'→H' acc=some (.lst (pre++L))→D.nx σ' H')→tb D σ H
theorem vO {vars:List Nat}{te:TE}{acc:Addr}{σ:St}{H:Hp}{x:V}(h:∀ Q:VK,(∀ H',Same H H'→Q x H')→te σ H Q):Emits vars (jT te acc) acc σ H [x]:=by
 intro D pre ha hz hd
 refine h _ fun H' e=>⟨pre,e _ _ ha,?_,hd σ _ rfl (Agree.refl _ _) (e.x.trans (SameX.put _)) aF⟩
 exact Nat.lt_of_le_of_lt (show pre.length≤1000000 by simp at hz;omega) (by decide)
theorem bL {α:Type}(f:Nat→List α)(i:Nat):(List.range (i+1)).flatMap f=(List.range i).flatMap f++f i:=by
 rw [List.range_succ,List.flatMap_append]
 simp
theorem fM {α:Type}(f:Nat→List α){i n:Nat}(h:i≤n):((List.range i).flatMap f).length≤((List.range n).flatMap f).length:=by
 induction h with
 | refl=>exact Nat.le_refl _
 | step _ ih=>rw [bL,List.length_append];omega
theorem mP {vars:List Nat}{tb:TS}{acc:Addr}{σ:St}{H:Hp}{lo:Int}{n j:Nat}{L:Nat→List V}(hj:j∈vars)(hjl:j<σ.length)
  (h:∀ i σ' H',i<n→σ'.length=σ.length→Agree vars σ σ'→σ'[j]?=some (some (.int (lo+(i:Int))))→SameX acc H H'→(∃ pre,H' acc=some (.lst pre))→Emits vars tb acc σ' H' (L i)) :
  Emits vars (jE (Itr lo n) (aN j) tb) acc σ H ((List.range n).flatMap L):=by
 intro D pre ha hz hd
 refine cG (lo:=lo) (n:=n) (g:=aN j) (D:=D) (fun i σ' H'=>i≤n∧σ'.length=σ.length∧Agree vars σ σ'∧SameX acc H H'∧H' acc=some (.lst (pre++(List.range i).flatMap L))) ⟨Nat.zero_le _,rfl,Agree.refl _ _,SameX.refl _ _,by simpa using ha⟩ (fun i σ1 H1 hi ⟨_,hl1,ag1,sx1,h1⟩=>?_) fun σ1 H1 ⟨_,hl1,ag1,sx1,h1⟩=>hd σ1 H1 hl1 ag1 sx1 h1
 have hle:=fM L (show i+1≤n from hi)
 rw [bL,List.length_append] at hle
 have fin:∀ σ' H',σ'.length=σ1.length→Agree vars (σ1.set j (some (.int (lo+(i:Int))))) σ'→SameX acc H1 H'→H' acc=some (.lst ((pre++(List.range i).flatMap L)++L i)) →
   (i+1≤n∧σ'.length=σ.length∧Agree vars σ σ'∧SameX acc H H'∧H' acc=some (.lst (pre++(List.range (i+1)).flatMap L))):=fun σ' H' hl ag sx h2=>
  ⟨hi,hl.trans hl1,(ag1.trans (Agree.set hj _)).trans ag,sx1.trans sx,by rw [h2,bL,List.append_assoc]⟩
 refine h i (σ1.set j (some (.int (lo+(i:Int))))) H1 hi (by rw [List.length_set];exact hl1) (ag1.trans (Agree.set hj _)) (rV (by omega)) sx1 ⟨_,h1⟩ _ _ h1 (by rw [List.length_append];omega) fun σ' H' hl ag sx h2=>fin σ' H' (hl.trans (List.length_set ..)) ag sx h2
theorem pS {vars:List Nat}{ta:TA}{tb:TS}{acc:Addr}{σ:St}{H:Hp}{n j:Nat}{L:Nat→List V}(hj:j∈vars)(hjl:j<σ.length)(hn:n≤1000000)
  (hta:∀ Q:List V→Hp→Prop,(∀ H',Same H H'→Q [.int (n:Int)] H')→ta σ H Q)
  (h:∀ i σ' H',i<n→σ'.length=σ.length→Agree vars σ σ'→σ'[j]?=some (some (.int (i:Int)))→SameX acc H H'→(∃ pre,H' acc=some (.lst pre))→Emits vars tb acc σ' H' (L i)) :
  Emits vars (qN (jX ta) (aN j) tb) acc σ H ((List.range n).flatMap L):=by
 intro D pre ha hz hd
 refine hta _ fun H' e=>⟨(n:Int),rfl,by omega,by omega,?_⟩
 rw [Int.toNat_natCast]
 refine mP (L:=L) hj hjl (fun i σ' H2 hi hl ag hs sx hp=>h i σ' H2 hi hl ag (by rw [hs];simp) (e.x.trans sx) hp) D pre (e _ _ ha) hz fun σ' H2 hl ag sx h2=>hd σ' H2 hl ag (e.x.trans sx) h2
end L2
namespace L2
open PySem PySem.Spec PyProof.Rows
theorem cH:bootBuiltins "len" = some (.builtin "len"):=by decide +kernel
theorem aBf:bootBuiltins "all" = some (.builtin "all"):=by decide +kernel
theorem rQ:bootBuiltins "min" = some (.builtin "min"):=by decide +kernel
theorem aAW:bootBuiltins "sum" = some (.builtin "sum"):=by decide +kernel
theorem fU:bootBuiltins "isinstance" = some (.builtin "isinstance"):=by decide +kernel
theorem iS:bootBuiltins "sorted" = some (.builtin "sorted"):=by decide +kernel
theorem eW:bootBuiltins "tuple" = some (.type "tuple"):=by decide +kernel
theorem hU:bootBuiltins "list" = some (.type "list"):=by decide +kernel
theorem xB:bootBuiltins "range" = some (.type "range"):=by decide +kernel
theorem yQ:bootBuiltins "int" = some (.type "int"):=by decide +kernel
theorem zZ:bootBuiltins "bool" = some (.type "bool"):=by decide +kernel
structure Blt (mg:Str→Option Value):Prop where
 len:mg "len" = none
 all:mg "all" = none
 min:mg "min" = none
 max:mg "max" = none
 sum:mg "sum" = none
 isi:mg "isinstance" = none
 sorted:mg "sorted" = none
 tuple:mg "tuple" = none
 list:mg "list" = none
 range:mg "range" = none
 int:mg "int" = none
 bool:mg "bool" = none
end L2
namespace L2
open PySem
theorem aCs {A:Around}{k:Nat}(hr:Room k A):A.units+100<cLine:=by have:=hr.un;omega
theorem aCw {A:Around}{k:Nat}(hr:Room k A):A.units+101<cLine:=by have:=hr.un;omega
end L2
namespace L2
open PySem PySem.Spec PyProof.Rows
section
variable {X:Cx}{K:PySem.W.Frag}
theorem aO (hK:X.K=K):IxR X (fun x y H Q=>aBR K x y H Q∨aBN K x y H Q):=by subst hK;exact aCh
theorem aY (hK:X.K=K):OpR X (binaryOp .Add) (bJ K):=by subst hK;exact zN
theorem dY {k:Nat}(hK:X.K=K)(hr:Room k X.A):OpR X (compareOp .Eq) (gF K):=by subst hK;exact aAM (aCs hr)
theorem pK {k:Nat}(hK:X.K=K)(hr:Room k X.A):OpR X (compareOp .NotEq) (zA K):=by subst hK;exact aBa (aCw hr)
theorem fW (hK:X.K=K):CallR X (.builtin "isinstance") (zS K):=by subst hK;exact yE
noncomputable def jU (K:PySem.W.Frag):List V→Hp→VK→Prop:=fun xs H Q=>∃ p ys,xs=[.ref p]∧(SqL K H p ys∨SqT K H p ys)∧Q (.int ys.length) H
theorem aV (hK:X.K=K):CallR X (.builtin "len") (jU K):=by subst hK;exact pA
noncomputable def aCV (K:PySem.W.Frag):List V→Hp→VK→Prop:=fun vs H Q=>∃ (a:Addr) (bs:List Bool),vs=[.ref a]∧Sq K H a (bs.map V.bl)∧Q (.bl (bs.all id)) H
theorem vT (hK:X.K=K)(hc:X.calm=true):CallR X (.builtin "all") (aCV K):=by subst hK;exact wQ hc
noncomputable def aCX (K:PySem.W.Frag):List V→Hp→VK→Prop:=fun vs H Q=>∃ (a:Addr) (ns:List Int),vs=[.ref a]∧Sq K H a (ns.map V.int)∧Q (.int ns.sum) H
theorem uF (hK:X.K=K)(hc:X.calm=true):CallR X (.builtin "sum") (aCX K):=by subst hK;exact yJ hc
noncomputable def aCO (K:PySem.W.Frag):List V→Hp→VK→Prop:=fun vs H Q=>∃ (a:Addr) (ns:List Int),vs=[.ref a]∧Sq K H a (ns.map V.int)∧ns≠[]∧∀ m:Int,m∈ns→(∀ k∈ns,m≤k)→Q (.int m) H
theorem vV (hK:X.K=K)(hc:X.calm=true):CallR X (.builtin "min") (aCO K):=by subst hK;exact yB hc
noncomputable def oK:List V→Hp→VK→Prop:=fun xs H Q=>∃ i j:Int,xs=[.int i, .int j]∧Q (.int (if j<i then j else i)) H
theorem mY (hc:X.calm=true):CallR X (.builtin "min") oK:=uH hc
noncomputable def jJ (K:PySem.W.Frag):List V→Hp→VK→Prop:=fun xs H Q=>∃ p ys,xs=[.ref p]∧((SqL K H p ys∧∀ l,H l=none→Q (.ref l) (upd H l (.tup ys)))∨(SqT K H p ys∧Q (.ref p) H))
theorem dW (hK:X.K=K):CallR X (.type "tuple") (jJ K):=by subst hK;exact oD
noncomputable def rL (K:PySem.W.Frag):List V→Hp→VK→Prop:=fun vs H Q=>(∃ p ys,vs=[.ref p]∧(SqL K H p ys∨SqT K H p ys)∧∀ l,H l=none→Q (.ref l) (upd H l (.lst ys))) ∨
  ∃ (a:Addr) (lo hi:Int),vs=[.ref a]∧H a=some (.rng lo hi)∧(-(2 ^ 62)≤lo∧lo<2 ^ 62∧-(2 ^ 62)≤hi∧hi<2 ^ 62∧hi - lo≤1000000)∧∀ p,H p=none→Q (.ref p) (upd H p (.lst ((wL lo hi).map V.int)))
theorem dO (hK:X.K=K)(hc:X.calm=true):CallR X (.type "list") (rL K):=by subst hK;exact nY hc
theorem hX {tg l:Expr}{tl:TE}(hK:X.K=K)(hl:PE X l tl):PI X tg l (wH K tl):=by subst hK;exact aBb hl
theorem rF {es:List Expr}{k:Nat}{t:TGs}{n:Nat}{pos:Pos}(hK:X.K=K)(hc:X.calm=true)(h:PGs X es t)(hn:(assignEach es X.env).length=n:=by rfl)(hst:(assignEach es X.env).findIdx? (·.1)=none:=by rfl):PG X (.Tuple es k pos) (aBv K n t):=by
 subst hK;exact aAF hc h hn hst
end
end L2
namespace L2
open PySem PySem.Spec PyProof.Rows
noncomputable abbrev yLt:R2:=rI0 fun i j => .bl (decide (i<j))
noncomputable abbrev yLe:R2:=rI0 fun i j => .bl (decide (i≤j))
noncomputable abbrev yGt:R2:=rI0 fun i j => .bl (decide (j<i))
noncomputable abbrev yGe:R2:=rI0 fun i j => .bl (decide (j≤i))
noncomputable abbrev lP:R2:=rI0 fun i j => .int (i - j)
noncomputable abbrev rW:R2:=rI (fun _ j=>0<j) fun i j => .int (i % j)
noncomputable abbrev wY:R2:=rI aCK fun i j => .int (i ^ j.toNat)
noncomputable abbrev aX (K:PySem.W.Frag):R2:=fun x y H Q=>aBR K x y H Q∨aBN K x y H Q
noncomputable def aCQ:List V→Hp→VK→Prop:=fun vs H Q=>(∃ n:Int,vs=[.int n]∧∀ p,H p=none→Q (.ref p) (upd H p (.rng 0 n)))∨∃ m n:Int,vs=[.int m, .int n]∧∀ p,H p=none→Q (.ref p) (upd H p (.rng m n))
theorem uA {X:Cx}:CallR X (.type "range") aCQ:=xN
end L2
namespace L2
open PySem
noncomputable def jY (T:List (List Int)):Dt := .tup (T.map fun r => .tup (r.map .int))
structure Quad (T:List (List Int))(n:Nat):Prop where
 len:T.length=n
 row:∀ r∈T,r.length=n
noncomputable def at2 (T:List (List Int)) (i j:Nat):Int:=(T.getD i []).getD j 0
section
variable {K:PySem.W.Frag}{H:Hp}{T:List (List Int)}{n:Nat}
theorem ShL.rows:∀ {T:List (List Int)} {rs:List V},ShL K H (T.map fun r=>Dt.tup (r.map Dt.int)) rs→rs.length=T.length∧∀ (i:Nat) (row:List Int),T[i]?=some row→∃ b,rs[i]?=some (.ref b)∧SqT K H b (row.map V.int)
 | [],rs,h=>by
  have h:rs=[]:=h
  subst h
  exact ⟨rfl,fun i row e=>by simp at e⟩
 | r :: T,rs,⟨x,rr,h1,⟨b,xs,h2,h3,h4⟩,h5⟩=>by
  obtain ⟨e,g⟩:=ShL.rows h5
  subst h1
  refine ⟨by rw [List.length_cons,List.length_cons,e],fun i row er=>?_⟩
  cases i with
  | zero=>
   have:r=row:=by simpa using er
   subst this
   exact ⟨b,by rw [h2];rfl,by rw [← ShL.of_ints h4];exact h3⟩
  | succ i=>exact g i row (by simpa using er)
theorem Sh.tab {v:V}(h:Sh K H (jY T) v):∃ a rs,v = .ref a∧SqT K H a rs∧rs.length=T.length∧∀ (i:Nat) (row:List Int),T[i]?=some row→∃ b,rs[i]?=some (.ref b)∧SqT K H b (row.map V.int):=by
 obtain ⟨a,rs,e,hq,hl⟩:=h
 obtain ⟨e2,g⟩:=ShL.rows hl
 exact ⟨a,rs,e,hq,e2,g⟩
theorem ShL.of_rows:∀ {T:List (List Int)} {rs:List V},rs.length=T.length→(∀ (i:Nat) (row:List Int),T[i]?=some row→∃ b,rs[i]?=some (.ref b)∧SqT K H b (row.map V.int))→ShL K H (T.map fun r=>Dt.tup (r.map Dt.int)) rs
 | [],rs,h,_=>List.length_eq_zero_iff.mp h
 | r :: T,[],h,_=>by simp at h
 | r :: T,x :: rs,h,g=>by
  obtain ⟨b,e,hq⟩:=g 0 r rfl
  have e:x = .ref b:=by simpa using e
  exact ⟨x,rs,rfl,⟨b,_,e,hq,ShL.ints r⟩,ShL.of_rows (by simpa using h) fun i row er=>by
   obtain ⟨c,e2,q2⟩:=g (i+1) row (by simpa using er)
   exact ⟨c,by simpa using e2,q2⟩⟩
theorem Quad.get (q:Quad T n){i:Nat}(h:i<n):∃ row,T[i]?=some row∧row.length=n∧T.getD i []=row:=by
 have hi:i<T.length:=by rw [q.len];exact h
 refine ⟨T[i],List.getElem?_eq_getElem hi,q.row _ (List.getElem_mem hi),?_⟩
 rw [List.getD_eq_getElem?_getD,List.getElem?_eq_getElem hi];rfl
theorem rG {xs:List Int}{j:Nat}(h:j<xs.length):xs[j]?=some (xs.getD j 0):=by
 rw [List.getD_eq_getElem?_getD,List.getElem?_eq_getElem h];rfl
theorem ixT {p:Addr}{xs:List V}{j:Nat}{v:V}{Q:VK}(h:SqT K H p xs)(hj:xs[j]?=some v)(q:Q v H):aX K (.ref p) (.int (j:Int)) H Q := .inr ⟨p,xs,j,v,rfl,rfl,h,vD hj,q⟩
theorem ixL {p:Addr}{xs:List V}{j:Nat}{v:V}{Q:VK}(h:SqL K H p xs)(hj:xs[j]?=some v)(q:Q v H):aX K (.ref p) (.int (j:Int)) H Q := .inl ⟨p,xs,j,v,rfl,rfl,h,vD hj,q⟩
theorem qS {v:V}{i:Nat}{Q:VK}(hS:Sh K H (jY T) v)(hq:Quad T n)(hi:i<n)(q:∀ b,SqT K H b ((T.getD i []).map V.int)→Q (.ref b) H):aX K v (.int (i:Int)) H Q:=by
 obtain ⟨a,rs,rfl,ha,hl,g⟩:=hS.tab
 obtain ⟨row,e1,e2,e3⟩:=hq.get hi
 obtain ⟨b,hb,hs⟩:=g i row e1
 exact ixT ha hb (q b (by rw [e3];exact hs))
theorem qD {σ:St}{t si sj:Nat}{v:V}{i j:Nat}{Q:VK}(ht:σ[t]?=some (some v))(hi:σ[si]?=some (some (.int (i:Int))))(hj:σ[sj]?=some (some (.int (j:Int))))(hS:Sh K H (jY T) v)(hq:Quad T n)(li:i<n)(lj:j<n)
  (q:Q (.int (at2 T i j)) H):tOp (aX K) (tOp (aX K) (aD t) (aD si)) (aD sj) σ H Q:=by
 refine ⟨_,ht,_,hi,qS hS hq li fun b hb=>⟨_,hj,ixT hb ?_ q⟩⟩
 obtain ⟨row,e1,e2,e3⟩:=hq.get li
 rw [List.getElem?_map,rG (by rw [e3];omega)]
 rfl
end
theorem lA {acc:Addr}{H H2:Hp}{o:HO}(hacc:H acc=none)(sx:SameX acc (upd H acc o) H2):Same H H2:=fun b u e=>sx b u (aQ e hacc) (by rw [aP (aQ e hacc)];exact e)
theorem Emits.mono {vars vars':List Nat}{tb:TS}{acc:Addr}{σ:St}{H:Hp}{L:List V}(h:Emits vars tb acc σ H L)(hs:∀ k∈vars,k∈vars'):Emits vars' tb acc σ H L:=
 fun D pre ha hz hd=>h D pre ha hz fun σ' H' hl ag sx h2=>hd σ' H' hl (fun k hk=>ag k fun z=>hk (hs k z)) sx h2
theorem Emits.cast {vars:List Nat}{tb:TS}{acc:Addr}{σ:St}{H:Hp}{L L':List V}(h:Emits vars tb acc σ H L)(e:L=L'):Emits vars tb acc σ H L':=e ▸ h
theorem qP (vars:List Nat)(L:List V){g:TG}{J:It}{tb:TS}{acc:Addr}{σ:St}{H:Hp}{D:lO}(ha:H acc=none)(hz:L.length≤1000000)(h:Emits vars (jE J g tb) acc σ (upd H acc (.lst [])) L)
  (q:∀ σ' H',Same H H'→H' acc=some (.lst L)→D.nx σ' H'):jE J g tb D σ (upd H acc (.lst [])):=
 h _ [] aF (by simpa using hz) fun σ' H' _ _ sx h2=>q σ' H' (lA ha sx) (by simpa using h2)
theorem eJ {α:Type}(f:Nat→List α)(c:Nat):∀ n,(∀ i,i<n→(f i).length≤c)→((List.range n).flatMap f).length≤n*c
 | 0,_=>by simp
 | n+1,h=>by
  rw [bL,List.length_append,Nat.add_mul,Nat.one_mul]
  have:=eJ f c n fun i hi=>h i (by omega)
  have:=h n (by omega)
  omega
theorem oU {α β:Type}(g:α→β)(f:Nat→List α)(l:List Nat):(l.flatMap f).map g=l.flatMap fun i=>(f i).map g:=by
 induction l with
 | nil=>rfl
 | cons x r ih=>rw [List.flatMap_cons,List.map_append,ih,List.flatMap_cons]
theorem kW {α:Type}(p:α→Bool)(f:Nat→List α)(l:List Nat):(l.flatMap f).all p=l.all fun i=>(f i).all p:=by
 induction l with
 | nil=>rfl
 | cons x r ih=>rw [List.flatMap_cons,List.all_append,ih,List.all_cons]
end L2
namespace L2
open PySem
section
variable {vars:List Nat}{tb:TS}{acc a:Addr}{σ:St}{H:Hp}{j:Nat}{D:lO}{K:PySem.W.Frag}
theorem uZ {lo:Int}{n:Nat}(R:Nat→List V→Hp→Prop)(hj:j∈vars)(hjl:j<σ.length)(h0:R 0 [] (upd H acc (.lst [])))(ha:H acc=none)
  (h:∀ i σ' H' L (D:lO),i<n→σ'.length=σ.length→Agree vars σ σ'→σ'[j]?=some (some (.int (lo+(i:Int))))→Same H H'→H' acc=some (.lst L)→R i L H' →
   (∀ σ'' H'' L',σ''.length=σ.length→Agree vars σ σ''→Same H H''→H'' acc=some (.lst L')→R (i+1) L' H''→D.nx σ'' H'')→tb D σ' H')
  (q:∀ σ' H' L,Same H H'→H' acc=some (.lst L)→R n L H'→D.nx σ' H'):jE (Itr lo n) (aN j) tb D σ (upd H acc (.lst [])):=by
 refine cG (lo:=lo) (n:=n) (g:=aN j) (D:=D) (fun i σ' H'=>i≤n∧σ'.length=σ.length∧Agree vars σ σ'∧Same H H'∧∃ L,H' acc=some (.lst L)∧R i L H') ⟨Nat.zero_le _,rfl,Agree.refl _ _,aJ ha _,[],aF,h0⟩ (fun i σ1 H1 hi ⟨_,hl1,ag1,sx1,L,h1,r1⟩=>?_) fun σ1 H1 ⟨_,_,_,sm,L,h1,r1⟩=>q σ1 H1 L sm h1 r1
 exact h i (σ1.set j (some (.int (lo+(i:Int))))) H1 L _ hi (by rw [List.length_set];exact hl1) (ag1.trans (Agree.set hj _)) (rV (by omega)) sx1 h1 r1 fun σ2 H2 L' hl2 ag2 sm2 h2 r2=>⟨hi,hl2,ag2,sm2,L',h2,r2⟩
theorem rZ {xs:List V}(R:Nat→List V→Hp→Prop)(hj:j∈vars)(hjl:j<σ.length)(h0:R 0 [] (upd H acc (.lst [])))(ha:H acc=none)(hs:∀ i L H',Same H H'→R i L H'→SqL K H' a xs)
  (h:∀ i x σ' H' L (D:lO),xs[i]?=some x→σ'.length=σ.length→Agree vars σ σ'→σ'[j]?=some (some x)→Same H H'→H' acc=some (.lst L)→R i L H' →
   (∀ σ'' H'' L',σ''.length=σ.length→Agree vars σ σ''→Same H H''→H'' acc=some (.lst L')→R (i+1) L' H''→D.nx σ'' H'')→tb D σ' H')
  (q:∀ σ' H' L,Same H H'→H' acc=some (.lst L)→R xs.length L H'→D.nx σ' H'):jE (Itl K a) (aN j) tb D σ (upd H acc (.lst [])):=by
 refine iE (K:=K) (a:=a) (xs:=xs) (g:=aN j) (D:=D) (fun i σ' H'=>i≤xs.length∧σ'.length=σ.length∧Agree vars σ σ'∧Same H H'∧∃ L,H' acc=some (.lst L)∧R i L H') ⟨Nat.zero_le _,rfl,Agree.refl _ _,aJ ha _,[],aF,h0⟩ (fun i σ1 H1 _ ⟨_,_,_,sm,L,_,r1⟩=>hs i L H1 sm r1) (fun i x σ1 H1 hx ⟨_,hl1,ag1,sx1,L,h1,r1⟩=>?_) fun σ1 H1 ⟨_,_,_,sm,L,h1,r1⟩=>q σ1 H1 L sm h1 r1
 have hi:i<xs.length:=(List.getElem?_eq_some_iff.mp hx).1
 exact h i x (σ1.set j (some x)) H1 L _ hx (by rw [List.length_set];exact hl1) (ag1.trans (Agree.set hj _)) (rV (by omega)) sx1 h1 r1 fun σ2 H2 L' hl2 ag2 sm2 h2 r2=>⟨hi,hl2,ag2,sm2,L',h2,r2⟩
end
structure Mat (H:Hp)(F:Addr)(ls:List Addr)(M:List (List Int)):Prop where
 top:H F=some (.lst (ls.map V.ref))
 len:ls.length=M.length
 row:∀ (i:Nat) (l:Addr) (r:List Int),ls[i]?=some l→M[i]?=some r→H l=some (.lst (r.map V.int))
 nd:ls.Nodup
 out:F∉ls
theorem Mat.same {H H':Hp}{F:Addr}{ls:List Addr}{M:List (List Int)}(m:Mat H F ls M)(e:Same H H'):Mat H' F ls M:=⟨e _ _ m.top,m.len,fun i l r a b=>e _ _ (m.row i l r a b),m.nd,m.out⟩
theorem Mat.keep {H H':Hp}{F:Addr}{ls:List Addr}{M:List (List Int)}(m:Mat H F ls M)(e:∀ b o,(b=F∨b∈ls)→H b=some o→H' b=some o):Mat H' F ls M:=
 ⟨e _ _ (.inl rfl) m.top,m.len,fun i l r a b=>e _ _ (.inr (List.mem_of_getElem? a)) (m.row i l r a b),m.nd,m.out⟩
noncomputable def oM (M:List (List Int)) (i j:Nat) (v:Int):List (List Int):=M.set i ((M.getD i []).set j v)
theorem fQ {M:List (List Int)}{n i j:Nat}{v:Int}(q:Quad M n)(hi:i<n):Quad (oM M i j v) n:=by
 refine ⟨by unfold oM;rw [List.length_set];exact q.len,fun r hr=>?_⟩
 unfold oM at hr
 rcases List.mem_or_eq_of_mem_set hr with h | h
 ·exact q.row r h
 ·obtain ⟨row,e1,e2,e3⟩:=q.get hi
  rw [h,List.length_set,e3];exact e2
theorem jG {M:List (List Int)}{n i j:Nat}{v:Int}(q:Quad M n)(hi:i<n)(hj:j<n)(a b:Nat):at2 (oM M i j v) a b=if a=i∧b=j then v else at2 M a b:=by
 obtain ⟨row,e1,e2,e3⟩:=q.get hi
 unfold at2 oM
 by_cases ha:a=i
 ·subst ha
  have:(M.set a ((M.getD a []).set j v)).getD a []=(M.getD a []).set j v:=by
   rw [List.getD_eq_getElem?_getD,List.getElem?_set_self (by rw [q.len];exact hi)];rfl
  rw [this,e3]
  by_cases hb:b=j
  ·subst hb
   rw [if_pos ⟨rfl,rfl⟩,List.getD_eq_getElem?_getD,List.getElem?_set_self (by omega)];rfl
  ·rw [if_neg (fun z=>hb z.2),List.getD_eq_getElem?_getD,List.getElem?_set_ne (Ne.symm hb),← List.getD_eq_getElem?_getD]
 ·have:(M.set i ((M.getD i []).set j v)).getD a []=M.getD a []:=by
   rw [List.getD_eq_getElem?_getD,List.getElem?_set_ne (Ne.symm ha),← List.getD_eq_getElem?_getD]
  rw [this,if_neg (fun z=>ha z.1)]
theorem Mat.at {K:PySem.W.Frag}{H:Hp}{F:Addr}{ls:List Addr}{M:List (List Int)}{n i:Nat}(m:Mat H F ls M)(q:Quad M n)(hi:i<n):∃ l,ls[i]?=some l∧(ls.map V.ref)[i]?=some (.ref l)∧H l=some (.lst ((M.getD i []).map V.int)):=by
 obtain ⟨row,e1,e2,e3⟩:=q.get hi
 have hl:i<ls.length:=by rw [m.len,q.len];exact hi
 refine ⟨ls[i],List.getElem?_eq_getElem hl,by rw [List.getElem?_map,List.getElem?_eq_getElem hl];rfl,?_⟩
 rw [e3]
 exact m.row i _ row (List.getElem?_eq_getElem hl) e1
theorem Mat.put {H:Hp}{F:Addr}{ls:List Addr}{M:List (List Int)}{n i j:Nat}{v:Int}{l:Addr}(m:Mat H F ls M)(q:Quad M n)(hi:i<n)(hl:ls[i]?=some l):Mat (upd H l (.lst (((M.getD i []).set j v).map V.int))) F ls (oM M i j v):=by
 have hm:l∈ls:=List.mem_of_getElem? hl
 have hF:F≠l:=fun e=>m.out (e ▸ hm)
 refine ⟨by rw [aP hF];exact m.top,by unfold oM;rw [List.length_set];exact m.len,fun a b r h1 h2=>?_,m.nd,m.out⟩
 by_cases ha:a=i
 ·subst ha
  rw [hl] at h1
  cases h1
  rw [aF]
  unfold oM at h2
  rw [List.getElem?_set_self (by rw [q.len];exact hi)] at h2
  cases h2
  rfl
 ·have hne:b≠l:=by
   intro e
   subst e
   obtain ⟨i1,z1⟩:=List.getElem?_eq_some_iff.mp h1
   obtain ⟨i2,z2⟩:=List.getElem?_eq_some_iff.mp hl
   exact ha ((List.getElem_inj m.nd).mp (z1.trans z2.symm))
  rw [aP hne]
  unfold oM at h2
  rw [List.getElem?_set_ne (Ne.symm ha)] at h2
  exact m.row a b r h1 h2
theorem rM {K:PySem.W.Frag}{H:Hp}{F:Addr}{ls:List Addr}{M:List (List Int)}{n i j t si sj:Nat}{σ:St}{Q:VK}(m:Mat H F ls M)(q:Quad M n)(ht:σ[t]?=some (some (.ref F)))(hi:σ[si]?=some (some (.int (i:Int))))(hj:σ[sj]?=some (some (.int (j:Int))))(li:i<n)(lj:j<n)
  (h:Q (.int (at2 M i j)) H):tOp (aX K) (tOp (aX K) (aD t) (aD si)) (aD sj) σ H Q:=by
 obtain ⟨l,h1,h2,h3⟩:=m.at (K:=K) q li
 refine ⟨_,ht,_,hi,ixL (.of m.top) h2 ⟨_,hj,ixL (.of h3) ?_ h⟩⟩
 obtain ⟨row,e1,e2,e3⟩:=q.get li
 rw [List.getElem?_map,rG (by rw [e3];omega)]
 rfl
theorem rE {K:PySem.W.Frag}{H:Hp}{F:Addr}{ls:List Addr}{M:List (List Int)}{n i j t si sj:Nat}{σ:St}{v:Int}{N:St→Hp→Prop}(m:Mat H F ls M)(q:Quad M n)(ht:σ[t]?=some (some (.ref F)))(hi:σ[si]?=some (some (.int (i:Int))))(hj:σ[sj]?=some (some (.int (j:Int))))(li:i<n)(lj:j<n)
  (h:∀ l H',l∈ls→H'=upd H l (.lst (((M.getD i []).set j v).map V.int))→Mat H' F ls (oM M i j v)→N σ H'):kF (tOp (aX K) (aD t) (aD si)) (aD sj) dM (.int v) σ H N:=by
 obtain ⟨l,h1,h2,h3⟩:=m.at (K:=K) q li
 obtain ⟨row,e1,e2,e3⟩:=q.get li
 refine ⟨_,ht,_,hi,ixL (.of m.top) h2 ⟨_,hj,l,_,(j:Int),j,rfl,rfl,h3,?_,?_⟩⟩
 rotate_left
 ·rw [← List.map_set]
  exact h l _ (List.mem_of_getElem? h1) rfl (m.put q li h1)
 rw [List.length_map,e3,e2]
 unfold ixN
 rw [if_pos (by omega),if_pos (by omega),Int.toNat_natCast]
end L2
namespace L2
open PySem
theorem oP {K:PySem.W.Frag}{σ:St}{H:Hp}{t n:Nat}{F:Addr}{ls:List Addr}{M:List (List Int)}{Q:VK}(ht:σ[t]?=some (some (.ref F)))(m:Mat H F ls M)(q:Quad M n)(hn:n≤100)(h:∀ p H',Same H H'→Sh K H' (jY M) (.ref p)→Q (.ref p) H') :
  tCB (jJ K) (aC (kX [none] (wH K (aD t)) (aN 0) [] fun acc=>jT (tCB (jJ K) (aC (aD 0) aS)) acc) aS) σ H Q:=by
 refine ⟨_,ht,F,rfl, .inl ⟨⟨_, .of m.top⟩,fun acc hacc=>?_⟩⟩
 have hlen:(ls.map V.ref).length=n:=by rw [List.length_map,m.len,q.len]
 refine rZ (vars:=[0]) (K:=K) (a:=F) (xs:=ls.map V.ref) (fun i L H'=>L.length=i∧∀ (j:Nat) (row:List Int),j<i→M[j]?=some row→∃ b,L[j]?=some (.ref b)∧H' b=some (.tup (row.map V.int))) (by decide) (by show 0<1;decide) ⟨rfl,fun j row hj=>absurd hj (Nat.not_lt_zero _)⟩ hacc (fun i L H' sm _ => .of (sm _ _ m.top)) (fun i x σ1 H1 L D hx l1 ag1 s1 sm1 ha1 ⟨r1,r2⟩ hD=>?_) fun σ1 H1 L sm1 ha1 ⟨r1,r2⟩=>?_
 ·have hi:i<n:=by rw [← hlen];exact (List.getElem?_eq_some_iff.mp hx).1
  have hil:i<ls.length:=by rw [m.len,q.len];exact hi
  obtain ⟨row,e1,e2,e3⟩:=q.get hi
  have ex:x = .ref ls[i]:=by
   rw [List.getElem?_map,List.getElem?_eq_getElem hil] at hx
   simpa using hx.symm
  subst ex
  have hrow:=m.row i _ row (List.getElem?_eq_getElem hil) e1
  refine ⟨_,s1,ls[i],row.map V.int,rfl, .inl ⟨.of (sm1 _ _ hrow),fun p hp=>?_⟩⟩
  have hpa:p≠acc:=fun e=>by rw [e,ha1] at hp;cases hp
  refine ⟨L,by rw [aP (Ne.symm hpa)];exact ha1,Nat.lt_of_le_of_lt (show L.length≤100 by omega) (by decide),?_⟩
  refine hD σ1 _ (L++[.ref p]) l1 ag1 (fun b o e=>?_) aF ⟨by rw [List.length_append,r1];rfl,fun j row' hj e=>?_⟩
  ·have hb:b≠acc:=aQ e hacc
   rw [aP hb,aP (aQ (sm1 _ _ e) hp)]
   exact sm1 _ _ e
  ·by_cases hji:j<i
   ·obtain ⟨b,g1,g2⟩:=r2 j row' hji e
    refine ⟨b,by rw [List.getElem?_append_left (by omega)];exact g1,?_⟩
    have hb:b≠acc:=ne_of g2 ha1 (fun z=>nomatch z)
    rw [aP hb,aP (aQ g2 hp)]
    exact g2
   ·have:j=i:=by omega
    subst this
    rw [e1] at e
    cases e
    refine ⟨p,by rw [List.getElem?_append_right (by omega),r1];simp,?_⟩
    rw [aP hpa]
    exact aF
 ·refine ⟨acc,L,rfl, .inl ⟨.of ha1,fun p hp=>?_⟩⟩
  have sm2:Same H (upd H1 p (.tup L)):=sm1.trans (aJ hp _)
  refine h p _ sm2 ⟨p,L,rfl, .of aF,ShL.of_rows (by rw [r1,hlen,q.len]) fun i row e=>?_⟩
  have hi:i<n:=by rw [← q.len];exact (List.getElem?_eq_some_iff.mp e).1
  obtain ⟨b,g1,g2⟩:=r2 i row (by omega) e
  exact ⟨b,g1, .of (by rw [aP (aQ g2 hp)];exact g2)⟩
end L2
namespace L2
open PySem
section
variable {K:PySem.W.Frag}{H:Hp}
end
theorem aBs {xs:List V}{t:Nat}(h:t≤xs.length):lY xs none (some (t:Int))=xs.take t:=by
 unfold lY HT.sIx
 simp only [Int.toNat_natCast]
 rw [if_neg (by omega),List.drop_zero,Nat.min_eq_left h,Nat.sub_zero]
theorem xZ {xs:List V}{t:Nat}(h:t≤xs.length):lY xs (some (t:Int)) none=xs.drop t:=by
 unfold lY HT.sIx
 simp only [Int.toNat_natCast]
 rw [if_neg (by omega),Nat.min_eq_left h,List.take_of_length_le (by rw [List.length_drop];omega)]
theorem wK (ns:List Int)(lo hi:Option Int):∃ ms:List Int,lY (ns.map V.int) lo hi=ms.map V.int∧ms.length≤ns.length:=by
 refine ⟨(ns.drop (HT.sIx ns.length 0 lo)).take (HT.sIx ns.length ns.length hi - HT.sIx ns.length 0 lo),?_,?_⟩
 ·unfold lY
  rw [List.length_map,List.map_take,List.map_drop]
 ·rw [List.length_take,List.length_drop];omega
end L2
namespace L2
open PySem
end L2
namespace L2
open PySem PySem.Spec PyProof.Rows
section
variable {X:Cx}
theorem jF {prog:Program}{w:World}{A:Around}{E:Value→Shared→Prop}{s:Shared}{t sl:Addr}{items:Array Value}{vl vu:Value}{lo hi:Option Int}{Q:Value→Shared→Prop}(ht:IsTup s.heap t items)(hs:s.heap.IsSliceOf sl vl vu .none)(pl:IsPart vl lo)(pu:IsPart vu hi)
  (hw:HT.sIx items.size 0 lo=0∧HT.sIx items.size items.size hi=items.size) (h:Q (.ref t) s):wpAny (model prog w) A (getItem (.ref t) (.ref sl)) Q E s:=by
 obtain ⟨os,hos,hcs,hds⟩:=id hs
 have hTs:s.TypeIs (.ref sl) "slice":=⟨os,hos,hcs⟩
 unfold getItem
 try with_reducible refine wpAny_holding ?_
 first | refine wpAny_bind (wpAny_pure ?_) | skip
 refine wpAny_bind (wpAny_sequenceKey ht.typeIs (by decide) ?_)
 refine wpAny_bind (wpAny_callSpecial?_slot (name:=Str.ofString "__getitem__") ht.typeIs PyProof.Rows.slot_tuple_getitem
  (wpAny_call_entry PyProof.Rows.slot_tuple_getitem ht.typeIs entry_tuple_getitem ?_ (args_tuple_getitem _ _)))
 show wpAny _ _ (Builtin.Tuple.tupleItemsOf (.ref t) >>= _) _ _ s
 refine wpAny_bind (tupleItemsOf_ ht ?_)
 refine wpAny_bind (wpAny_typeOf hTs ?_)
 rw [if_pos (by decide)]
 refine wpAny_bind (HT.sliceApplied_gen hs pl pu ?_)
 rw [hw.1,hw.2]
 have hyes:((((0:Nat):Int) == 0 && (1:Int) == 1 && (items.size - 0) == items.size)=true):=by simp
 show wpAny _ _ (if (((0:Nat):Int) == 0 && (1:Int) == 1 && (items.size - 0) == items.size)=true then _ else _) _ _ s
 rw [if_pos hyes]
 unfold Builtin.Tuple.tupleIsExact
 refine wpAny_bind (wpAny_bind (wpAny_typeOf ht.typeIs (wpAny_pure ?_)))
 rw [if_pos (show (Value.type "tuple" == Value.type "tuple")=true by rfl)]
 exact wpAny_bind (wpAny_rule (wpAny_pure ⟨_,rfl,wpAny_pure h⟩))
noncomputable def aCL (K:PySem.W.Frag):V→Option Int→Option Int→Hp→VK→Prop:=fun x lo hi H Q=>∃ a xs,x = .ref a∧SqT K H a xs∧∀ p H',Same H H'→SqT K H' p (lY xs lo hi)→Q (.ref p) H'
theorem zK:SlR X (aCL X.K):=by
 intro pins s σ H x v vl vu lo hi sl Q I rx hs pl pu h
 obtain ⟨a,xs,rfl,hx,q⟩:=h
 by_cases hw:HT.sIx xs.length 0 lo=0∧HT.sIx xs.length xs.length hi=xs.length
 ·obtain rfl:v=Value.ref a:=rx
  obtain ⟨its,rv,p,hz⟩:=I.tuple hx
  have hl:=rv.length
  have ec:lY xs lo hi=xs:=by unfold lY;rw [hw.1,hw.2,List.drop_zero,Nat.sub_zero,List.take_length]
  refine ⟨"tuple",_,PyProof.Rows.slot_tuple_getitem.lookup,p.typeIs,?_⟩
  refine jF p hs pl pu (by simp only [List.size_toArray,← hl];exact hw) ?_
  exact ⟨.ref a,H,I,rfl,q a H (Same.refl H) (by rw [ec];exact hx)⟩
 ·exact aBm (X:=X) pins s σ H (.ref a) v vl vu lo hi sl Q I rx hs pl pu ⟨a,xs,rfl,hx,hw,fun p hp=>q p _ (aJ hp _) (.of aF)⟩
noncomputable abbrev mH (K:PySem.W.Frag):V→Option Int→Option Int→Hp→VK→Prop:=fun x lo hi H Q=>aCW K x lo hi H Q∨aCL K x lo hi H Q
theorem lS {K:PySem.W.Frag}(hK:X.K=K):SlR X (mH K):=by subst hK;exact zJ.or zK
end
section
variable {prog:Program}{w:World}{A:Around}{E:Value→Shared→Prop}{s:Shared}
theorem mR {l:Addr}{ob:Obj}{n:Nat}{T:String}{us:List Value}{Q:List Value→Shared→Prop}(e0:s.heap.get? l=some ob)(ec:ob.cls = .type T)(eT:T="list"∨T="tuple")(ed:ob.data = .seq us.toArray n)
  (q:Q us { s with heap:=(s.heap.push (seqObj "list" #[] 0)).update s.heap.objs.size (Obj.mapSeq (· ++ us.toArray)) }) (z:us.length≤sizeLine):wpAny (model prog w) A (collect (.ref l)) Q E s:=by
 unfold collect
 refine wpAny_bind (wpAny_runValue (codeAny_builtin entry_proto_collect' ?g1))
 case g1=>
  show wpAny _ _ (do again (.builtin "list.__iadd__" ⟨[← newList [],Value.ref l],[]⟩)) _ _ s
  refine wpAny_bind (wpAny_newList (wpAny_pure ⟨Code.quiet_builtin _ (by decide +kernel),codeAny_builtin entry_list_iadd' ?g2⟩))
  case g2=>
   have e1:(s.heap.push (seqObj "list" #[] 0)).get? l=some ob:=Heap.get?_push_of_some _ e0
   show wpAny _ _ (Builtin.List.listExtendWith (Value.ref s.heap.objs.size) (Value.ref l) (Value.ref s.heap.objs.size)) _ _ { s with heap:=s.heap.push (seqObj "list" #[] 0) }
   unfold Builtin.List.listExtendWith
   refine wpAny_bind (wpAny_typeOf (T:=T) ⟨ob,e1,ec⟩ ?g3)
   case g3=>
    have ht:((Value.type T == Value.type "list") || (Value.type T == Value.type "tuple"))=true:=by rcases eT with rfl | rfl <;> rfl
    rw [if_pos (by first | exact ht | (rcases eT with rfl | rfl <;> simp))]
    refine wpAny_bind (listItems_at e1 ed (wpAny_bind (listItems_at (xs:=#[]) (n:=0) (Heap.get?_push_size _ rfl) rfl ?g4)))
    case g4=>
     rw [if_neg (by simp)]
     refine wpAny_bind (listUpdate_at (xs:=#[]) (n:=0) (Heap.get?_push_size _ rfl) rfl ?g5 (Nat.zero_le _) (by show (#[]++us.toArray).size≤sizeLine+1;simp only [Array.size_append,List.size_toArray,List.length_nil];omega))
     case g5=>
      refine wpAny_pure ?g6
      case g6=>
       show wpAny (model prog w) A (load s.heap.objs.size >>= fun o=>match o.data with | .seq xs _=>pure xs.toList | _=>unsupported "internal:collect") Q E { s with heap:=(s.heap.push (seqObj "list" #[] 0)).update s.heap.objs.size (Obj.mapSeq (· ++ us.toArray)) }
       refine wpAny_bind (wpAny_load (get?_update_seq (Heap.get?_push_size _ rfl) _) ?g7)
       case g7=>
        show wpAny _ _ (pure ((#[]:Array Value)++us.toArray).toList) Q E _
        rw [show ((#[]:Array Value)++us.toArray).toList=us by simp]
        exact wpAny_pure q
theorem uL {l:Addr}{ob:Obj}{n:Nat}{T:String}{us:List Value}{ks:List Int}{Q:Value→Shared→Prop}(e0:s.heap.get? l=some ob)(ec:ob.cls = .type T)(eT:T="list"∨T="tuple")(ed:ob.data = .seq us.toArray n)(hI:IntsAre us ks)(h64:us.length<64)
  (q:∀ (out:Array Value) (ns':List Int),IntsAre out.toList ns'→ns'.Perm ks→ns'.Pairwise (·≤·)→Q (.ref (s.heap.objs.size+1)) { s with heap:=sortedAll s.heap us out }):wpAny (model prog w) A (call (.builtin "sorted") [.ref l]) Q E s:=by
 refine Calls.call_function_entry kind_sorted plain_sorted entry_sorted (args_sorted1 _) ?g1
 case g1=>
  unfold Builtin.«sorted»
  refine wpAny_bind (m:=checkCount "sorted" 1 1 _) (wpAny_pure (wpAny_bind (mR e0 ec eT ed ?g2 (Nat.le_trans (Nat.le_of_lt h64) (by decide)))))
  case g2=>
   refine wpAny_bind (wpAny_newList ?g3)
   case g3=>
    have z1:((s.heap.push (seqObj "list" #[] 0)).update s.heap.objs.size (Obj.mapSeq (· ++ us.toArray))).objs.size=s.heap.objs.size+1:=by rw [Heap.size_update,size_push']
    have e2:(((s.heap.push (seqObj "list" #[] 0)).update s.heap.objs.size (Obj.mapSeq (· ++ us.toArray))).push (seqObj "list" us.toArray 0)).get? (s.heap.objs.size+1)=some (seqObj "list" us.toArray 0):=by rw [← z1];exact Heap.get?_push_size _ rfl
    show wpAny _ _ _ _ _ { s with heap:=((s.heap.push (seqObj "list" #[] 0)).update s.heap.objs.size (Obj.mapSeq (· ++ us.toArray))).push (seqObj "list" us.toArray 0) }
    rw [z1]
    refine wpAny_bind (wpAny_holding (wpAny_call_entry slot_list_sort ⟨_,e2,rfl⟩ entry_list_sort (list_sort_tree e2 hI h64 fun out ns' a1 a2 a3=>⟨_,rfl,wpAny_pure ⟨_,rfl,q out ns' a1 a2 a3⟩⟩) (args_list_sort _)))
end
end L2
namespace L2
open PySem PySem.Spec PyProof.Rows
theorem jK:∀ {ns:List Int} {us:List Value},IntsAre us ns→Vals (ns.map V.int) us
 | [],_,h=>by cases h;exact .nil
 | n :: ns,_,h=>by
  cases h with
  | cons _ t h=>exact .cons ⟨t,rfl⟩ (jK h)
theorem IntsAre.len:∀ {ns:List Int} {us:List Value},IntsAre us ns→us.length=ns.length
 | [],_,h=>by cases h;rfl
 | n :: ns,_,h=>by
  cases h with
  | cons _ t h=>rw [List.length_cons,List.length_cons,IntsAre.len h]
noncomputable def qY (K:PySem.W.Frag):List V→Hp→VK→Prop:=fun vs H Q=>∃ (a:Addr) (ns:List Int),vs=[.ref a]∧Sq K H a (ns.map V.int)∧ns.length<64 ∧
 ∀ ms:List Int,ms.Perm ns→ms.Pairwise (·≤·)→∀ l,H l=none→Q (.ref l) (upd H l (.lst (ms.map V.int)))
theorem qJ {X:Cx}:CallR X (.builtin "sorted") (qY X.K):=by
 intro pins s σ H xs us Q I r ⟨a,ns,e,hq,h64,q⟩
 subst e
 obtain ⟨u,rfl,ru⟩:=pG r
 obtain rfl:u=Value.ref a:=ru
 have go:∀ (its:List Value) (ob:Obj) (n:Nat) (T:String),Vals (ns.map V.int) its→s.heap.get? a=some ob→ob.cls = .type T→(T="list"∨T="tuple")→ob.data = .seq its.toArray n→wpAny (model X.prog X.w) X.A (call (.builtin "sorted") [.ref a]) (EP X pins σ Q) X.xe s:=by
  intro its ob n T rv e0 ec eT ed
  have hi:=eN rv
  refine uL e0 ec eT ed hi (by rw [IntsAre.len hi];exact h64) fun out ns' a1 a2 a3=>?_
  obtain ⟨c,he⟩:=sortedAll_at s.heap its out
  refine ⟨.ref (s.heap.objs.size+1),_,I.laid (t':=s.toks) (o := .lst (ns'.map V.int)) (fun b ob q=>sortedAll_old q) (Nat.le_succ _) ?_,rfl,q ns' a2 a3 _ (I.hok.fresh (Nat.le_succ _))⟩
  refine ⟨?_,out.toList,c,jK a1,he⟩
  rw [List.length_map,a2.length_eq]
  exact Nat.le_trans (Nat.le_of_lt h64) (by decide)
 rcases hq with hq | hq
 ·obtain ⟨its,rv,pl,hz⟩:=I.list hq
  obtain ⟨o,ho,hc,n,hd⟩:=pl.isList
  exact go its o n "list" rv ho hc (.inl rfl) hd
 ·obtain ⟨its,rv,pl,hz⟩:=I.tuple hq
  obtain ⟨o,ho,hc,n,hd⟩:=pl
  exact go its o n "tuple" rv ho hc (.inr rfl) hd
theorem pO {X:Cx}{K:PySem.W.Frag}(hK:X.K=K):CallR X (.builtin "sorted") (qY K):=by subst hK;exact qJ
mutual
noncomputable def toP:Dt→PyData
 | .non => .none
 | .bl b => .bool b
 | .int i => .int i
 | .str x => .str x
 | .tup ds => .tuple (tQ ds)
 | .lst ds => .list (tQ ds)
noncomputable def tQ:List Dt→List PyData
 | []=>[]
 | d :: ds=>toP d :: tQ ds
end
mutual
theorem aAb:∀ d,(toP d).depth=dep d
 | .non=>rfl
 | .bl b=>rfl
 | .int i=>rfl
 | .str x=>rfl
 | .tup ds=>by show (PyData.tuple (tQ ds)).depth=_;unfold PyData.depth dep;rw [nC]
 | .lst ds=>by show (PyData.list (tQ ds)).depth=_;unfold PyData.depth dep;rw [nC]
theorem nC:∀ ds,PyData.depthAll (tQ ds)=oC ds
 | []=>by unfold tQ oC PyData.depthAll;rfl
 | d :: ds=>by unfold tQ oC PyData.depthAll;rw [aAb,nC]
end
mutual
theorem tI:∀ d,(toP d).hasDict=false
 | .non=>by unfold toP PyData.hasDict;rfl
 | .bl b=>by unfold toP PyData.hasDict;rfl
 | .int i=>by unfold toP PyData.hasDict;rfl
 | .str x=>by unfold toP PyData.hasDict;rfl
 | .tup ds=>by unfold toP PyData.hasDict;exact iB ds
 | .lst ds=>by unfold toP PyData.hasDict;exact iB ds
theorem iB:∀ ds,PyData.hasDictAll (tQ ds)=false
 | []=>by unfold tQ PyData.hasDictAll;rfl
 | d :: ds=>by unfold tQ PyData.hasDictAll;rw [tI,iB];rfl
end
section
variable {X:Cx}{pins:List (Addr × Obj)}{σ:St}{H:Hp}{s:Shared}
mutual
theorem Inv.reads (I:Inv X pins σ H s):∀ {d:Dt} {x:V} {v:Value},RelV x v→Sh X.K H d x→∃ as,Reads s.heap v (toP d) as
 | .non,x,v,r,h=>by obtain rfl:x = .non:=h;obtain rfl:v = .none:=r;exact ⟨_, .none⟩
 | .bl b,x,v,r,h=>by obtain rfl:x = .bl b:=h;obtain rfl:v = .bool b:=r;exact ⟨_, .bool b⟩
 | .int i,x,v,r,h=>by obtain rfl:x = .int i:=h;obtain ⟨t,rfl⟩:=r;exact ⟨_, .int i t⟩
 | .str y,x,v,r,h=>by obtain rfl:x = .str y:=h;obtain ⟨t,rfl⟩:=r;exact ⟨_, .str y t⟩
 | .tup ds,x,v,r,⟨a,xs,h1,h2,h3⟩=>by
  subst h1
  obtain rfl:v=Value.ref a:=r
  obtain ⟨its,rv,⟨o,ho,hc,n,hd⟩,_⟩:=I.tuple h2
  obtain ⟨as,ha⟩:=Inv.readsAll I rv h3
  exact ⟨_, .tuple ho hc hd ha⟩
 | .lst ds,x,v,r,⟨a,xs,h1,h2,h3⟩=>by
  subst h1
  obtain rfl:v=Value.ref a:=r
  obtain ⟨its,rv,pl,_⟩:=I.list h2
  obtain ⟨o,ho,hc,n,hd⟩:=pl.isList
  obtain ⟨as,ha⟩:=Inv.readsAll I rv h3
  exact ⟨_, .list ho hc hd ha⟩
theorem Inv.readsAll (I:Inv X pins σ H s):∀ {ds:List Dt} {xs:List V} {us:List Value},Vals xs us→ShL X.K H ds xs→∃ as,ReadsAll s.heap us (tQ ds) as
 | [],xs,us,r,h=>by obtain rfl:xs=[]:=h;cases r;exact ⟨_, .nil⟩
 | d :: ds,xs,us,r,⟨x,t,h1,h2,h3⟩=>by
  subst h1
  cases r with
  | cons r1 r2=>
   obtain ⟨as,h4⟩:=Inv.reads I r1 h2
   obtain ⟨bs,h5⟩:=Inv.readsAll I r2 h3
   exact ⟨_, .cons h4 h5⟩
end
end
noncomputable def okR (d:Dt):Prop:=(toP d).showable=true∧(toP d).leavesShort 1930=true∧(toP d).bulk≤4000∧dep d≤100
end L2
namespace L2
open PySem PySem.Spec PyProof.Rows
section
variable {prog:Program}{w:World}{A:Around}{E:Value→Shared→Prop}{s:Shared}
end
end L2
namespace L2
open PySem PySem.Spec PyProof.Rows
section
variable {X:Cx}{pins:List (Addr × Obj)}{σ:St}{H:Hp}{s:Shared}{h':Heap}
end
section
variable {X:Cx}{pins:List (Addr × Obj)}{σ:St}{H:Hp}{s:Shared}
end
structure aDc (mg:Str→Option Value):Prop extends Blt mg where
 zip:mg "zip" = none
 repr:mg "repr" = none
 enumerate:mg "enumerate" = none
 reversed:mg "reversed" = none
 str:mg "str" = none
end L2
namespace L2
open PySem PySem.Spec PyProof.Rows
section
variable {prog:Program}{w:World}{A:Around}{E:Value→Shared→Prop}{s:Shared}
end
theorem lI {X:Cx}{K:PySem.W.Frag}{o e:Expr}{es:List Expr}{to:TE}{t:TA}{name:Str}{apos cpos:Pos}{T id:String}{r:V→List V→Hp→VK→Prop}(hK:X.K=K)(pa:PlainAttrs T)(slot:Slot T name id)(hty:typeOf (.builtin id)=pure (.type "method_descriptor"))(hm:MtM X id r)(ho:PE X o to)(ha:PA X (e :: es) t)
  (b1:attributeBase o name X.env (eval o X.env)=eval o X.env:=by rfl)
  (b2:((backTo cpos (starEach (e :: es) X.env)).all (fun x=>!x.1) && (backToKw cpos (keywordEach [] X.env)).all (fun x=>x.1.isSome) && decide ((e :: es).length+([]:List Keyword).length+(if ([]:List Keyword).isEmpty then 0 else 1)<30))=true:=by rfl)
  (b3:(apos.endLine == cpos.line)=true:=by rfl) (b4:starEach (e :: es) X.env=(false,eval e X.env) :: starEach es X.env:=by rfl) (b5:(backTo cpos (starEach es X.env)).any (·.1)=false:=by rfl) :
  PE X (.Call (.Attribute o name apos) (e :: es) [] cpos) (tBM K T r to t):=by subst hK;exact aBV pa slot hty hm ho ha b1 b2 b3 b4 b5
noncomputable def aCA:R2:=fun x y H Q=>(∃ a b,x = .bl a∧y = .bl b∧Q (.bl (a == b)) H)∨(y = .non∧Q (.bl (decide (x = .non))) H)
theorem aAK {X:Cx}:OpR X (compareOp .Is) aCA:=by
 refine OpR.or (fun pins s σ H x y v u Q I rx ry h=>?g) aBw
 case g=>
 obtain ⟨a,b,rfl,rfl,q⟩:=h
 obtain rfl:v=Value.bool a:=rx
 obtain rfl:u=Value.bool b:=ry
 exact wpAny_is_plain (by cases a <;> cases b <;> rfl) (yY I q (by cases a <;> cases b <;> rfl))
end L2
namespace L2
open PySem PySem.Spec PyProof.Rows
end L2
namespace L2
open PySem
noncomputable def bY (p:Nat):V := .int (p:Int)
theorem gG (ps:List Nat):ps.map bY=(ps.map fun p:Nat=>(p:Int)).map V.int:=by rw [List.map_map];rfl
theorem iA {c:Bool}{A B:Prop}(e:c=true)(h:A):if c=true then A else B:=by rw [if_pos e];exact h
theorem dD {c:Bool}{A B:Prop}(e:c=false)(h:B):if c=true then A else B:=by subst e;exact aDa h
theorem wE {K:PySem.W.Frag}{H:Hp}{a l:Addr}{xs ys:List V}{o:HO}(h:SqT K H a xs)(hl:H l=some (.lst ys)):SqT K (upd H l o) a xs:=by
 have key:∀ u,H a=some u→(∀ zs,u ≠ .lst zs)→upd H l o a=some u:=fun u e n=>by
  rw [aP]
  ·exact e
  ·intro z
   rw [z,hl] at e
   cases e
   exact n _ rfl
 rcases h with (h | ⟨u,h⟩) | h
 ·exact .inl (.inl (key _ h fun _ z=>by cases z))
 ·exact .inl (.inr ⟨u,key _ h fun _ z=>by cases z⟩)
 ·exact .inr h
theorem mQ {fs ls:List Nat}{k:Nat}(hk:k<ls.length):((fs++[ls[k]])++ls.eraseIdx k).Perm (fs++ls):=by
 rw [List.append_assoc]
 refine List.Perm.append_left _ ?_
 have e:ls=ls.take k++ls[k] :: ls.drop (k+1):=by simp
 have e2:ls.eraseIdx k=ls.take k++ls.drop (k+1):=List.eraseIdx_eq_take_drop_succ _ _
 rw [e2]
 refine List.Perm.trans ?_ (List.Perm.of_eq e.symm)
 show (ls[k] :: (ls.take k++ls.drop (k+1))).Perm _
 exact List.perm_middle.symm
theorem aCF {k n:Nat}(h:k<n):seqIndex? (k:Int) n=some k:=by
 have e:seqIndex? (k:Int) n=if (decide (0≤(if (k:Int)<0 then (k:Int)+(n:Int) else (k:Int))) && decide ((if (k:Int)<0 then (k:Int)+(n:Int) else (k:Int))<(n:Int)))=true then some (if (k:Int)<0 then (k:Int)+(n:Int) else (k:Int)).toNat else none:=rfl
 rw [e]
 simp only [show ¬ (k:Int)<0 by omega,if_false]
 rw [if_pos (by simp;omega)]
 rfl
theorem pX {α β:Type}(f:α→β):∀ (l:List α) (k:Nat),(l.map f).eraseIdx k=(l.eraseIdx k).map f
 | [],_=>rfl
 | _ :: _,0=>rfl
 | a :: l,k+1=>by
  show f a :: (l.map f).eraseIdx k=f a :: (l.eraseIdx k).map f
  rw [pX f l k]
section
variable {K:PySem.W.Frag}{H:Hp}
end
theorem vU {c:Int}{n:Nat}(h:1≤n):∃ k:Nat,c % (n:Int)=(k:Int)∧k<n:=by
 have g0:=Int.emod_nonneg c (show (n:Int)≠0 by omega)
 have g1:=Int.emod_lt_of_pos c (show (0:Int)<(n:Int) by omega)
 obtain ⟨k,hk⟩:=Int.eq_ofNat_of_zero_le g0
 exact ⟨k,hk,by omega⟩
noncomputable def Rows (K:PySem.W.Frag) (H:Hp) (xs:List V) (T:List (List Int)):Prop:=xs.length=T.length∧∀ (i:Nat) (row:List Int),T[i]?=some row→∃ b,xs[i]?=some (.ref b)∧SqT K H b (row.map V.int)
section
variable {K:PySem.W.Frag}{H H':Hp}{xs:List V}{T:List (List Int)}
theorem Rows.map (h:Rows K H xs T)(f:∀ b row,SqT K H b row→SqT K H' b row):Rows K H' xs T:=⟨h.1,fun i row e=>by
 obtain ⟨b,e1,e2⟩:=h.2 i row e
 exact ⟨b,e1,f _ _ e2⟩⟩
theorem Rows.same (h:Rows K H xs T)(e:Same H H'):Rows K H' xs T:=h.map fun _ _ s=>e.tup s
theorem Rows.put (h:Rows K H xs T){l:Addr}{ys:List V}{o:HO}(hl:H l=some (.lst ys)):Rows K (upd H l o) xs T:=h.map fun _ _ s=>wE s hl
theorem Rows.nil:Rows K H [] []:=⟨rfl,fun i row e=>by cases e⟩
theorem Rows.snoc (h:Rows K H xs T){b:Addr}{r:List Int}(hb:SqT K H b (r.map V.int)):Rows K H (xs++[.ref b]) (T++[r]):=by
 refine ⟨by rw [List.length_append,List.length_append,h.1];rfl,fun i row e=>?_⟩
 by_cases hi:i<T.length
 ·rw [List.getElem?_append_left hi] at e
  obtain ⟨b',e1,e2⟩:=h.2 i row e
  exact ⟨b',by rw [List.getElem?_append_left (by rw [h.1];exact hi)];exact e1,e2⟩
 ·rw [List.getElem?_append_right (by omega)] at e
  have:i - T.length=0:=by
   rcases hk:i - T.length with _ | k
   ·rfl
   ·rw [hk] at e;cases e
  rw [this] at e
  cases e
  exact ⟨b,by rw [List.getElem?_append_right (by rw [h.1];omega),h.1,this];rfl,hb⟩
theorem Rows.sh (h:Rows K H xs T){l:Addr}(hl:SqL K H l xs):Sh K H (.lst (T.map fun r=>Dt.tup (r.map Dt.int))) (.ref l):=⟨l,xs,rfl,hl,ShL.of_rows h.1 h.2⟩
end
end L2
namespace L2
open PySem PySem.Spec PyProof.Rows
section
variable {prog:Program}{w:World}{A:Around}{E:Value→Shared→Prop}{s:Shared}
end
end L2
namespace L2
open PySem
section
variable {X:Cx}{es:List Expr}{te:TE}{t:TA}
theorem bE {c:Const}{k:Nat}{p:Pos}(ha:PE X (.Constant c k p) te)(hr:PA X es t):PA X (.Constant c k p :: es) (aC te t):=dG ha hr
theorem aB {n:Str}{p:Pos}(ha:PE X (.Name n p) te)(hr:PA X es t):PA X (.Name n p :: es) (aC te t):=dG ha hr
theorem yK {l:List Expr}{p:Pos}(ha:PE X (.List l p) te)(hr:PA X es t):PA X (.List l p :: es) (aC te t):=dG ha hr
theorem kJ {l:List Expr}{k:Nat}{p:Pos}(ha:PE X (.Tuple l k p) te)(hr:PA X es t):PA X (.Tuple l k p :: es) (aC te t):=dG ha hr
theorem cL {a b:Expr}{o:Operator}{p:Pos}(ha:PE X (.BinOp a o b p) te)(hr:PA X es t):PA X (.BinOp a o b p :: es) (aC te t):=dG ha hr
theorem bV {a b:Expr}{p:Pos}(ha:PE X (.Subscript a b p) te)(hr:PA X es t):PA X (.Subscript a b p :: es) (aC te t):=dG ha hr
theorem bC {a:Expr}{l:List Expr}{kw:List Keyword}{p:Pos}(ha:PE X (.Call a l kw p) te)(hr:PA X es t):PA X (.Call a l kw p :: es) (aC te t):=dG ha hr
end
end L2
namespace L2
open PySem
mutual
noncomputable def aBW:Dt→Bool
 | .tup ds=>decide (ds.length<64) && zF ds
 | .lst ds=>zF ds
 | _=>true
noncomputable def zF:List Dt→Bool
 | []=>true
 | d :: ds=>aBW d && zF ds
end
noncomputable def okM (m e:Nat) (d:Dt):Prop:=(toP d).showable=true∧(toP d).leavesShort 1930=true∧(toP d).bulk≤m∧dep d≤e∧aBW d=true
noncomputable def Am (K:PySem.W.Frag) (H:Hp) (m e:Nat) (x:V):Prop:=∃ d,Sh K H d x∧okM m e d
noncomputable def Goo (K:PySem.W.Frag) (H:Hp) (v:V):Prop:=∃ d,Sh K H d v∧okR d∧aBW d=true
section
variable {K:PySem.W.Frag}{H H':Hp}
theorem Am.same {m e:Nat}{x:V}(s:Same H H'):Am K H m e x→Am K H' m e x:=fun ⟨d,h,o⟩=>⟨d,h.same s,o⟩
theorem Goo.same {v:V}(s:Same H H'):Goo K H v→Goo K H' v:=fun ⟨d,h,o⟩=>⟨d,h.same s,o⟩
noncomputable def Tu (K:PySem.W.Frag) (H:Hp) (m e k:Nat) (v:V):Prop:=∃ a xs,v = .ref a∧SqT K H a xs∧xs.length≤k∧∀ x∈xs,Am K H m e x
theorem Tu.same {m e k:Nat}{v:V}(s:Same H H'):Tu K H m e k v→Tu K H' m e k v:=fun ⟨a,xs,h1,h2,h3,h4⟩=>⟨a,xs,h1,s.tup h2,h3,fun x hx=>(h4 x hx).same s⟩
end
theorem sD {c:Int}{n k:Nat}{H:Hp}{Q:VK}(h:1≤n)(e:c % (n:Int)=(k:Int))(q:Q (.int (k:Int)) H):rW (.int c) (.int (n:Int)) H Q:=⟨_,_,rfl,rfl,by omega,by show Q (.int (c % (n:Int))) H;rw [e];exact q⟩
end L2
namespace L2
open PySem PySem.Spec PyProof.Rows
inductive mK:List (Value × Value)→List (Int × Int)→Prop
 | nil:mK [] []
 | cons (a b:Int) (t u:Tok) {r:List (Value × Value)} {zs:List (Int × Int)}:mK r zs→mK ((.int a t, .int b u) :: r) ((a,b) :: zs)
noncomputable def rS (f:Bool):List (Int × Int)→Bool
 | []=>f
 | (a,b) :: r=>if a=b then rS f r else decide (a<b)
theorem kP {prog:Program}{w:World}{A:Around}{E:Value→Shared→Prop}{s:Shared}{a b:Int}{t u:Tok}{Q:Value→Shared→Prop}(h:Q (.bool (decide (a<b))) s):wpAny (model prog w) A (richCompare .Lt (.int a t) (.int b u)) Q E s:=lt_int h
theorem vK (l b:Addr)(us vs:Array Value)(n n2:Nat)(dd dd2:Option Addr)(sl sl2:Array (Option Value))(zs:List (Int × Int))(hz:mK (us.toList.zip vs.toList) zs) :
  Meets (Builtin.«tuple.__lt__» ⟨[.ref l, .ref b],[]⟩)
   (fun _ R s=>s.heap.get? l=some { cls := .type "tuple",dict:=dd,data := .seq us n,slots:=sl }∧s.heap.get? b=some { cls := .type "tuple",dict:=dd2,data := .seq vs n2,slots:=sl2 }∧R (.ok (.ret (.bool (rS (decide (us.size<vs.size)) zs)))) s):=
 .of_wp fun prog w A R s h=>by
  obtain ⟨s1,s2,s3,s4,s5⟩:=s
  obtain ⟨gl,gb,h⟩:=h
  have f2:=AutoSeq1.sub_tuple_tuple
  wp_walk using AutoSeq1.wpAny_loadPart' gl,AutoSeq1.wpAny_loadPart' gb,wpAny_forIn_list _ (fun rest b s'=>b.1=none∧s'=⟨s1,s2,s3,s4,s5⟩∧∃ ys,mK rest ys∧R (.ok (.ret (.bool (rS (decide (us.size<vs.size)) ys)))) ⟨s1,s2,s3,s4,s5⟩) _
  case turn=>
   rintro ⟨y,x⟩ rest b s' ⟨hb',rfl,ys,hy,hR⟩
   cases hy with
   | cons p q t u hr=>
    refine wpAny_bind (wpAny_eqBool_int ?_)
    by_cases e:p=q
    ·rw [show (p == q)=true by simpa using e]
     rw [rS,if_pos e] at hR
     wp_walk
     exact ⟨rfl,rfl,_,hr,hR⟩
    ·rw [show (p == q)=false by simpa using e]
     rw [rS,if_neg e] at hR
     wp_walk using kP
     exact ⟨_,rfl,hR⟩
  case fin=>
   rintro ⟨b1,b2⟩ s' ⟨hb',rfl,ys,hy,hR⟩
   simp only at hb'
   subst hb'
   cases hy
   wp_walk
   exact ⟨_,rfl,hR⟩
  case h=>
   exact ⟨rfl,rfl,zs,hz,h⟩
section
variable {prog:Program}{w:World}{A:Around}{R:Result→Shared→Prop}{It:Addr}{fp wr:List Addr}{n:Nat}{P:Nat→Value→Prop}{St:Nat→Heap→Prop}
noncomputable def aCy (prog:Program) (w:World) (A:Around) (kp:Heap→Prop) (P:Nat→Value→Prop) (bt:Nat→Nat→Bool):Prop:=
 ∀ i j x y (s:Shared) (Q:Value→Shared→Prop) (E:Value→Shared→Prop),kp s.heap→P i x→P j y→Q (.bool (bt i j)) s→wpAny (model prog w) A (richCompare .Lt x y) Q E s
noncomputable def Kp (kp:Heap→Prop) (wr:List Addr) (z:Addr):Prop:=∀ h h',kp h→(∀ b o,b∉wr→b≠z→h.get? b=some o→h'.get? b=some o)→kp h'
theorem aDd (W:Walks prog w A.in1 It fp wr n P St)(bt:Nat→Nat→Bool){kp:Heap→Prop}(z:Addr)(hz:z∉fp)(kk:Kp kp wr z)(hc:aCy prog w A.in1 kp P bt) :
  ∀ (k j:Nat) (s:Shared) (x:Value) (c:Nat),n - (j+1)=k→j+1≤n→kp s.heap→St (j+1) s.heap→P (argBest bt j) x→s.heap.get? z=some { cls := .type "list",dict:=none,data := .seq #[x,x] c,slots:=#[] } →
  (∀ v h' tk,P (argBest bt (n - 1)) v→(∀ b o,b∉wr→b≠z→s.heap.get? b=some o→h'.get? b=some o)→R (.ok (.ret v)) { s with heap:=h',toks:=tk }) →
  codeAny (model prog w) A (.builtin "min.loop" ⟨[.ref It, .none, .ref z],[]⟩) R s:=by
 have zw:z∉wr:=fun h=>hz (W.sub _ h)
 have nm:(toString "min" ++ toString ".loop" : String)="min.loop":=by decide
 intro k
 induction k with
 | zero=>
  intro j s x c hk hj kp0 st px gz hR
  have en:j+1=n:=by omega
  refine codeAny_builtin F.entry_min_loop ?g
  case g=>
  rw [Around.under_plainId F.plain_min_loop _];show wpAny _ A.in1 (seqItems? (.ref z) >>= _) _ _ s;refine wpAny_bind (wpAny_seqItems gz rfl ?g)
  case g=>
  show wpAny _ A.in1 (tryCatch (pyNext (.ref It)) _ >>= _) _ _ s;refine wpAny_bind (wpAny_tryCatch (W.done s _ _ (en ▸ st) fun h' tk kh=>?g))
  case g=>
  show wpAny _ A.in1 (updateSeq z (fun _=>#[]) >>= _) _ _ _;refine wpAny_bind (wpAny_updateSeq (kh z _ zw gz) rfl (wpAny_bind (wpAny_letGo (wpAny_pure ?g))))
  case g=>
  exact hR x _ tk (by rw [← en];exact px) fun b o bw bz e=>(Heap.get?_update_other _ _ (Ne.symm bz)).trans (kh b o bw e)
 | succ k ih=>
  intro j s x c hk hj kp0 st px gz hR
  have lt:j+1<n:=by omega
  refine codeAny_builtin F.entry_min_loop ?g
  case g=>
  rw [Around.under_plainId F.plain_min_loop _];show wpAny _ A.in1 (seqItems? (.ref z) >>= _) _ _ s;refine wpAny_bind (wpAny_seqItems gz rfl ?g)
  case g=>
  show wpAny _ A.in1 (tryCatch (pyNext (.ref It)) _ >>= _) _ _ s;refine wpAny_bind (wpAny_tryCatch (W.item (j+1) s _ _ lt st fun v h' tk pv st' kh=>?g))
  case g=>
  have gz':=kh z _ zw gz
  have kp1:kp h':=kk _ _ kp0 fun b o bw _ e=>kh b o bw e
  show wpAny _ A.in1 (tryCatch (holding [v,v] (richCompare .Lt v x >>= _)) _ >>= _) _ _ _;refine wpAny_bind (wpAny_tryCatch (wpAny_holding (wpAny_bind (hc (j+1) (argBest bt j) v x _ _ _ kp1 pv px ?g))))
  case g=>
  refine wpAny_bind (wpAny_holding (wpAny_truthy_bool (wpAny_bind (wpAny_letGo (wpAny_pure ?g)))))
  case g=>
  cases hb:bt (j+1) (argBest bt j) with
  | true=>
   simp only [if_true];refine wpAny_bind (wpAny_updateSeq gz' rfl (wpAny_bind (wpAny_letGo ?g)))
   case g=>
   have up:∀ b o,b≠z→h'.get? b=some o→(h'.update z (Obj.mapSeq fun _=>#[v,v])).get? b=some o:=fun b o bz e=>(Heap.get?_update_other _ _ (Ne.symm bz)).trans e
   rw [nm];refine wpAny_pure ⟨plainId_quiet F.plain_min_loop _,ih (j+1) _ v _ (by omega) lt (kk _ _ kp1 fun b o _ bz e=>up b o bz e) (W.frame _ _ _ st' fun b bf o e=>up b o (fun q=>hz (by rw [← q];exact bf)) e) (by simp only [argBest,hb,if_true];exact pv) (Heap.get?_update_self _ gz' rfl) fun v' h2 tk2 pv' kh2=>?g⟩
   case g=>
   exact hR v' h2 tk2 pv' fun b o bw bz e=>kh2 b o bw bz (up b o bz (kh b o bw e))
  | false=>
   simp only [Bool.false_eq_true,if_false];refine wpAny_bind (wpAny_letGo ?g)
   case g=>
   rw [nm];refine wpAny_pure ⟨plainId_quiet F.plain_min_loop _,ih (j+1) _ x c (by omega) lt kp1 st' (by simp only [argBest,hb,Bool.false_eq_true,if_false];exact px) gz' fun v' h2 tk2 pv' kh2=>?g⟩
   case g=>
   exact hR v' h2 tk2 pv' fun b o bw bz e=>kh2 b o bw bz (kh b o bw e)
theorem aDb (W:Walks prog w A.in1 It fp wr n P St)(bt:Nat→Nat→Bool){kp:Heap→Prop}(z:Addr)(hz:z∉fp)(kk:Kp kp wr z)(hc:aCy prog w A.in1 kp P bt)(hn:0<n){s:Shared}{c:Nat}(kp0:kp s.heap)(st:St 0 s.heap)(gz:s.heap.get? z=some { cls := .type "list",dict:=none,data := .seq #[] c,slots:=#[] })
  (hR:∀ v h' tk,P (argBest bt (n - 1)) v→(∀ b o,b∉wr→b≠z→s.heap.get? b=some o→h'.get? b=some o)→R (.ok (.ret v)) { s with heap:=h',toks:=tk }) :
  codeAny (model prog w) A (.builtin "min.loop" ⟨[.ref It, .none, .ref z],[]⟩) R s:=by
 have zw:z∉wr:=fun h=>hz (W.sub _ h)
 have nm:(toString "min" ++ toString ".loop" : String)="min.loop":=by decide
 refine codeAny_builtin F.entry_min_loop ?g
 case g=>
 rw [Around.under_plainId F.plain_min_loop _];show wpAny _ A.in1 (seqItems? (.ref z) >>= _) _ _ s;refine wpAny_bind (wpAny_seqItems gz rfl ?g)
 case g=>
 show wpAny _ A.in1 (tryCatch (pyNext (.ref It)) _ >>= _) _ _ s;refine wpAny_bind (wpAny_tryCatch (W.item 0 s _ _ hn st fun v h' tk pv st' kh=>?g))
 case g=>
 have gz':=kh z _ zw gz
 have kp1:kp h':=kk _ _ kp0 fun b o bw _ e=>kh b o bw e
 have up:∀ b o,b≠z→h'.get? b=some o→(h'.update z (Obj.mapSeq fun _=>#[v,v])).get? b=some o:=fun b o bz e=>(Heap.get?_update_other _ _ (Ne.symm bz)).trans e
 show wpAny _ A.in1 (updateSeq z (fun _=>#[v,v]) >>= _) _ _ _;refine wpAny_bind (wpAny_updateSeq gz' rfl ?g)
 case g=>
 rw [nm];refine wpAny_pure ⟨plainId_quiet F.plain_min_loop _,aDd W bt z hz kk hc _ 0 _ v _ rfl hn (kk _ _ kp1 fun b o _ bz e=>up b o bz e) (W.frame _ _ _ st' fun b bf o e=>up b o (fun q=>hz (by rw [← q];exact bf)) e) pv (Heap.get?_update_self _ gz' rfl) fun v' h2 tk2 pv' kh2=>?g⟩
 case g=>
 exact hR v' h2 tk2 pv' fun b o bw bz e=>kh2 b o bw bz (up b o bz (kh b o bw e))
end
section
variable {prog:Program}{w:World}{A:Around}{E:Value→Shared→Prop}{s:Shared}
theorem mU {x:Value}{Q:Value→Shared→Prop}
  (h:wpAny (model prog w) A.in1 (pyIter x) (fun it s₂=>∃ It fp wr n P St bt,∃ kp:Heap→Prop,it = .ref It∧Walks prog w A.in1 It fp wr n P St∧St 0 s₂.heap∧(∀ b∈fp,b<s₂.heap.objs.size)∧0<n∧kp s₂.heap∧(∀ z,s₂.heap.objs.size≤z→Kp kp wr z)∧aCy prog w A.in1 kp P bt ∧
   ∀ v h' tk,P (argBest bt (n - 1)) v→(∀ b o,b∉wr→s₂.heap.get? b=some o→h'.get? b=some o)→Q v { s₂ with heap:=h',toks:=tk }) E s) :
  wpAny (model prog w) A (call (.builtin "min") [x]) Q E s:=by
 have nm:(toString "min" ++ toString ".loop" : String)="min.loop":=by decide
 refine call_function_tree F.kind_min F.plain_min F.entry_min (F.args_min1 _) ?g
 case g=>
 show wpAny _ A.in1 (Builtin.Builtins.bindParams "min" ["key","default"] 0 ⟨[],[]⟩ >>= _) _ _ s;refine wpAny_bind (wpAny_of_eq (show Builtin.Builtins.bindParams "min" ["key","default"] 0 ⟨[],[]⟩=pure [none,none] from rfl) (wpAny_bind (wpAny_pure (wpAny_bind (wpAny_mono h (fun it s2 h2=>?g) fun _ _ e=>e)))))
 case g=>
 obtain ⟨It,fp,wr,n,P,St,bt,kp,rfl,W,st,hf,hn,kp0,kk,hc,hQ⟩:=h2
 refine wpAny_bind (wpAny_newObj_type ?g)
 case g=>
 have zf:s2.heap.objs.size∉fp:=fun m=>Nat.lt_irrefl _ (hf _ m)
 have kz:=kk s2.heap.objs.size (Nat.le_refl _)
 rw [nm];refine wpAny_pure ⟨plainId_quiet F.plain_min_loop _,aDb W bt s2.heap.objs.size zf kz hc hn (kz _ _ kp0 fun b o _ _ e=>Heap.get?_push_of_some _ e) (W.frame _ _ _ st fun b _ o e=>Heap.get?_push_of_some _ e) (Heap.get?_push_size _ rfl) fun v h' tk pv kh=>?g⟩
 case g=>
 exact hQ v h' tk pv fun b o bw e=>kh b o bw (Nat.ne_of_lt (Heap.lt_size e)) (Heap.get?_push_of_some _ e)
end
end L2
namespace L2
open PySem PySem.Spec PyProof.Rows
noncomputable def cO:List Int→List Int→Bool
 | [],[]=>false
 | [],_ :: _=>true
 | _ :: _,[]=>false
 | a :: r,b :: q=>if a=b then cO r q else decide (a<b)
theorem qW:∀ (ns ms:List Int),rS (decide (ns.length<ms.length)) (ns.zip ms)=cO ns ms
 | [],[]=>rfl
 | [],m :: ms=>by simp [rS,cO]
 | n :: ns,[]=>by simp [rS,cO]
 | n :: ns,m :: ms=>by
  rw [List.zip_cons_cons,rS,cO,← qW ns ms]
  have:decide ((n :: ns).length<(m :: ms).length)=decide (ns.length<ms.length):=by
   by_cases h:ns.length<ms.length <;> simp [h]
  rw [this]
theorem gD:∀ ns:List Int,cO ns ns=false
 | []=>rfl
 | n :: ns=>by rw [cO,if_pos rfl];exact gD ns
theorem eO:∀ {a b c:List Int},cO a b=true→cO b c=true→cO a c=true
 | [],[],_,h,_=>by cases h
 | [],_ :: _,[],_,h=>by cases h
 | [],_ :: _,_ :: _,_,_=>rfl
 | _ :: _,[],_,h,_=>by cases h
 | _ :: _,_ :: _,[],_,h=>by cases h
 | x :: a,y :: b,z :: c,h1,h2=>by
  rw [cO] at h1 h2 ⊢
  by_cases e1:x=y <;> by_cases e2:y=z
  ·subst e1 e2
   rw [if_pos rfl] at h1 h2 ⊢
   exact eO h1 h2
  ·subst e1
   rw [if_neg e2] at h2 ⊢
   exact h2
  ·subst e2
   rw [if_neg e1] at h1 ⊢
   exact h1
  ·rw [if_neg e1] at h1
   rw [if_neg e2] at h2
   have g1:=of_decide_eq_true h1
   have g2:=of_decide_eq_true h2
   rw [if_neg (by omega)]
   exact decide_eq_true (by omega)
theorem eZ {bt:Nat→Nat→Bool}(irr:∀ i,bt i i=false)(tr:∀ i j k,bt i j=true→bt j k=true→bt i k=true):∀ k j,j≤k→bt j (argBest bt k)=false
 | 0,j,h=>by
  obtain rfl:j=0:=by omega
  exact irr 0
 | k+1,j,h=>by
  unfold argBest
  by_cases c:bt (k+1) (argBest bt k)=true
  ·rw [if_pos c]
   by_cases e:j=k+1
   ·subst e;exact irr _
   ·refine Bool.eq_false_iff.mpr fun q=>?_
    have:=eZ irr tr k j (by omega)
    rw [tr _ _ _ q c] at this
    cases this
  ·rw [if_neg c]
   by_cases e:j=k+1
   ·subst e;simpa using c
   ·exact eZ irr tr k j (by omega)
theorem zC:∀ {ns ms:List Int} {us vs:List Value},IntsAre us ns→IntsAre vs ms→mK (us.zip vs) (ns.zip ms)
 | [],_,_,_,h,_=>by cases h;exact .nil
 | _ :: _,[],_,_,h,g=>by cases g;cases h;exact .nil
 | n :: ns,m :: ms,_,_,h,g=>by
  cases h with
  | cons _ t h=>
   cases g with
   | cons _ u g=>exact .cons n m t u (zC h g)
theorem uT {prog:Program}{w:World}{A:Around}{E:Value→Shared→Prop}{s:Shared}{a b:Addr}{us vs:List Value}{ns ms:List Int}{Q:Value→Shared→Prop}(hu:A.units<cLine)(ha:IsTup s.heap a us.toArray)(hb:IsTup s.heap b vs.toArray)(h1:IntsAre us ns)(h2:IntsAre vs ms)(q:Q (.bool (cO ns ms)) s) :
  wpAny (model prog w) A (richCompare .Lt (.ref a) (.ref b)) Q E s:=by
 obtain ⟨⟨oc,od,odt,osl⟩,e1,c1,n1,d1⟩:=ha
 obtain ⟨⟨pc,pd,pdt,psl⟩,e2,c2,n2,d2⟩:=hb
 subst c1 d1 c2 d2
 refine richCompare_meets_room (op := .Lt) ⟨_,e1,rfl⟩ ⟨_,e2,rfl⟩ F.slot_tuple_lt F.entry_tuple_lt (F.args_tuple_lt_2 _ _) (vK a b us.toArray vs.toArray n1 n2 od pd osl psl (ns.zip ms) (zC h1 h2)) ⟨e1,e2,?g⟩ hu
 case g=>
 have l1:=IntsAre.len h1
 have l2:=IntsAre.len h2
 rw [List.size_toArray,List.size_toArray,l1,l2,qW]
 exact ⟨fun z=>(by cases z),q⟩
noncomputable def aAq (K:PySem.W.Frag):List V→Hp→VK→Prop:=fun vs H Q=>∃ (a:Addr) (xs:List V) (T:List (List Int)),vs=[.ref a]∧Sq K H a xs∧Rows K H xs T∧T≠[]∧∀ (i:Nat) (b:Addr) (row:List Int),xs[i]?=some (.ref b)→T[i]?=some row→SqT K H b (row.map V.int)→(∀ r∈T,cO r row=false)→Q (.ref b) H
theorem wD {X:Cx}{k:Nat}(hr:Room k X.A)(hc:X.calm=true):CallR X (.builtin "min") (aAq X.K):=by
 intro pins s σ H vs us Q I r ⟨a,xs,T,e,hq,hR,hne,q⟩
 subst e
 obtain ⟨u,rfl,ru⟩:=r.one
 obtain rfl:u=Value.ref a:=ru
 refine mU (iQ (I.ok.hd hc) I hq fun its It fp wr S s2 rv hz W st hf hI=>?g)
 case g=>
 have hl:its.length=T.length:=by rw [← rv.length,hR.1]
 have hpos:0<T.length:=List.length_pos_iff.mpr hne
 have item:∀ (i:Nat) (v:Value),its[i]?=some v→∃ b row,v = .ref b∧T[i]?=some row∧xs[i]?=some (.ref b)∧SqT X.K H b (row.map V.int):=fun i v hv=>by
  obtain ⟨x,hx,rx⟩:=rv.getR hv
  have hi:i<T.length:=by rw [← hR.1];exact (List.getElem?_eq_some_iff.mp hx).1
  obtain ⟨b,e1,e2⟩:=hR.2 i _ (List.getElem?_eq_getElem hi)
  rw [e1] at hx
  cases hx
  exact ⟨b,_,rx,List.getElem?_eq_getElem hi,e1,e2⟩
 refine ⟨It,fp,wr,its.length,_,S,fun i j=>cO (T.getD i []) (T.getD j []),fun h=>∀ b o,b∉wr→s2.heap.get? b=some o→h.get? b=some o,rfl,W,st,hf,by omega,fun b o _ e=>e,fun z hz0 h h' k1 k2 b o bw e=>k2 b o bw (fun q0=>Nat.not_lt.mpr hz0 (q0 ▸ Heap.lt_size e)) (k1 b o bw e),fun i j vi vj s' Q' E' kp hi hj hQ'=>?g,fun v h' tk hv hk=>?h⟩
 case g=>
  obtain ⟨b1,r1,rfl,t1,_,q1⟩:=item i vi hi
  obtain ⟨b2,r2,rfl,t2,_,q2⟩:=item j vj hj
  have I':=hI s'.heap s'.toks kp
  obtain ⟨us1,v1,p1,_⟩:=I'.tuple q1
  obtain ⟨us2,v2,p2,_⟩:=I'.tuple q2
  refine uT (ns:=r1) (ms:=r2) (us:=us1) (vs:=us2) (by have:=hr.un;show X.A.units+1<cLine;omega) p1 p2 (eN v1) (eN v2) ?g
  case g=>
  have e1:T.getD i []=r1:=by rw [List.getD_eq_getElem?_getD,t1];rfl
  have e2:T.getD j []=r2:=by rw [List.getD_eq_getElem?_getD,t2];rfl
  have hQ2:Q' (Value.bool (cO (T.getD i []) (T.getD j []))) s':=hQ'
  rw [e1,e2] at hQ2
  exact hQ2
 case h=>
  obtain ⟨b,row,rfl,t1,e1,q1⟩:=item _ v hv
  refine ⟨.ref b,H,hI h' tk hk,rfl,q _ b row e1 t1 q1 fun r0 hr0=>?g⟩
  case g=>
  obtain ⟨j,hj,rfl⟩:=List.getElem_of_mem hr0
  have:=eZ (bt:=fun i j=>cO (T.getD i []) (T.getD j [])) (fun i=>gD _) (fun i j k=>eO) (its.length - 1) j (by omega)
  have e1:T.getD j []=T[j]:=by rw [List.getD_eq_getElem?_getD,List.getElem?_eq_getElem hj];rfl
  have e2:T.getD (argBest (fun i j=>cO (T.getD i []) (T.getD j [])) (its.length - 1)) []=row:=by rw [List.getD_eq_getElem?_getD,t1];rfl
  have g:cO (T.getD j []) (T.getD (argBest (fun i j=>cO (T.getD i []) (T.getD j [])) (its.length - 1)) [])=false:=this
  rw [e1,e2] at g
  exact g
theorem sO {X:Cx}{K:PySem.W.Frag}{k:Nat}(hK:X.K=K)(hr:Room k X.A)(hc:X.calm=true):CallR X (.builtin "min") (aAq K):=by subst hK;exact wD hr hc
noncomputable abbrev aAV (K:PySem.W.Frag):List V→Hp→VK→Prop:=fun vs H Q=>aCO K vs H Q∨aAq K vs H Q
theorem tH {X:Cx}{K:PySem.W.Frag}{k:Nat}(hK:X.K=K)(hr:Room k X.A)(hc:X.calm=true):CallR X (.builtin "min") (aAV K):=by
 intro pins s σ H vs us Q I r h
 rcases h with h | h
 ·exact vV hK hc pins s σ H vs us Q I r h
 ·exact sO hK hr hc pins s σ H vs us Q I r h
noncomputable abbrev aBn:List V→Hp→VK→Prop:=fun xs H Q=>(∃ i,xs=[.int i]∧Q (.int i) H)∨∃ k,xs=[.bl k]∧Q (.int (if k then 1 else 0)) H
theorem sK {X:Cx}:CallR X (.type "int") aBn:=uW
end L2
namespace L2
open PySem PySem.Spec PyProof.Rows
section
variable {prog:Program}{w:World}{A:Around}{E:Value→Shared→Prop}{s:Shared}
end
section
variable {prog:Program}{w:World}{A:Around}{E:Value→Shared→Prop}{s:Shared}
end
end L2
namespace L2
open PySem PySem.Spec PyProof.Rows
end L2
namespace L2
open PySem
end L2
namespace L2
open PySem PySem.Spec PyProof.Rows
section
variable {prog:Program}{w:World}{A:Around}{E:Value→Shared→Prop}{s:Shared}
end
section
variable {X:Cx}
end
end L2
namespace L2
open PySem
section
variable {X:Cx}
end
end L2
namespace L2
open PySem PySem.Spec PyProof.Rows
section
variable {prog:Program}{w:World}{A:Around}{E:Value→Shared→Prop}{s:Shared}
end
end L2
namespace L2
open PySem PySem.Spec PyProof.Rows
section
variable {X:Cx}
end
end L2
namespace L2
open PySem PySem.Spec PyProof.Rows
section
variable {X:Cx}
end
end L2
namespace L2
open PySem
structure aDj (mg:Str→Option Value):Prop extends aDc mg where
 set:mg "set" = none
section
variable {X:Cx}
noncomputable def aCx (K:PySem.W.Frag) (ta:TE):TT:=fun σ H Q=>ta σ H fun x H'=>∃ k,aCp K x H' k∧Q k H'
theorem zH {K:PySem.W.Frag}{a:Expr}{ta:TE}(hK:X.K=K)(ha:PE X a ta)(he:∀ whole,isTrue a X.env whole=(do let v ← whole;standAt a.pos;holding [v] (truthy v))):PT X a (aCx K ta):=by
 subst hK
 exact wZ ha he
end
end L2
namespace L2
open PySem
structure lQ (mg:Str→Option Value):Prop extends aDj mg where
 abs:mg "abs" = none
theorem yP:bootBuiltins "abs" = some (.builtin "abs"):=by decide +kernel
noncomputable def tS:List V→Hp→VK→Prop:=fun xs H Q=>∃ i:Int,xs=[.int i]∧Q (.int (if i<0 then -i else i)) H
theorem oT {X:Cx}:CallR X (.builtin "abs") tS:=xS
end L2
namespace L2
open PySem
section
variable {vars:List Nat}{tb:TS}{acc a:Addr}{σ:St}{H:Hp}{j:Nat}{D:lO}{K:PySem.W.Frag}
end
noncomputable def EmR (K:PySem.W.Frag) (vars:List Nat) (tb:TS) (acc:Addr) (σ:St) (H:Hp) (L:List (List Int)):Prop:=
 ∀ (D:lO) (pre:List V) (R:List (List Int)),H acc=some (.lst pre)→Rows K H pre R→R.length+L.length≤100000→(∀ σ' H' pre',σ'.length=σ.length→Agree vars σ σ'→SameX acc H H'→H' acc=some (.lst pre')→Rows K H' pre' (R++L)→D.nx σ' H')→tb D σ H
section
variable {K:PySem.W.Frag}{vars:List Nat}{tb:TS}{acc:Addr}{σ:St}{H:Hp}
theorem EmR.cast {L L':List (List Int)}(h:EmR K vars tb acc σ H L)(e:L=L'):EmR K vars tb acc σ H L':=e ▸ h
theorem zO {ta:TA}{r:List Int}(hr:r.length≤100)(h:∀ Q:List V→Hp→Prop,Q (r.map V.int) H→ta σ H Q):EmR K vars (jT (qF ta) acc) acc σ H [r]:=by
 intro D pre R ha hR hz hd
 refine h _ ⟨by rw [List.length_map];exact Nat.le_trans hr (by decide),fun t ht=>?_⟩
 have st:=aJ ht (.tup (r.map V.int))
 have ha':=st _ _ ha
 refine ⟨pre,ha',Nat.lt_of_le_of_lt (show pre.length≤100000 by rw [hR.1];omega) (by decide),?_⟩
 exact hd σ _ _ rfl (Agree.refl _ _) (st.x.trans (SameX.put _)) aF (Rows.snoc (Rows.put (hR.same st) ha') (wE (.of aF) ha'))
theorem wV {lo:Int}{n j:Nat}{L:Nat→List (List Int)}(hj:j∈vars)(hjl:j<σ.length)
  (h:∀ i σ' H',i<n→σ'.length=σ.length→Agree vars σ σ'→σ'[j]?=some (some (.int (lo+(i:Int))))→SameX acc H H'→EmR K vars tb acc σ' H' (L i)) :
  EmR K vars (jE (Itr lo n) (aN j) tb) acc σ H ((List.range n).flatMap L):=by
 intro D pre R ha hR hz hd
 refine cG (lo:=lo) (n:=n) (g:=aN j) (D:=D) (fun i σ' H'=>i≤n∧σ'.length=σ.length∧Agree vars σ σ'∧SameX acc H H'∧∃ pre',H' acc=some (.lst pre')∧Rows K H' pre' (R++(List.range i).flatMap L)) ⟨Nat.zero_le _,rfl,Agree.refl _ _,SameX.refl _ _,pre,ha,by simpa using hR⟩ (fun i σ1 H1 hi ⟨_,hl1,ag1,sx1,pre1,h1,r1⟩=>?_) fun σ1 H1 ⟨_,hl1,ag1,sx1,pre1,h1,r1⟩=>hd σ1 H1 pre1 hl1 ag1 sx1 h1 r1
 have hle:=fM L (show i+1≤n from hi)
 rw [bL,List.length_append] at hle
 refine h i (σ1.set j (some (.int (lo+(i:Int))))) H1 hi (by rw [List.length_set];exact hl1) (ag1.trans (Agree.set hj _)) (rV (by omega)) sx1 _ pre1 _ h1 r1 (by rw [List.length_append];omega) fun σ' H' pre' hl ag sx h2 r2=>⟨hi,hl.trans ((List.length_set ..).trans hl1),(ag1.trans (Agree.set hj _)).trans ag,sx1.trans sx,pre',h2,by rw [bL,← List.append_assoc];exact r2⟩
theorem xC (vars:List Nat)(L:List (List Int)){g:TG}{J:It}{D:lO}(ha:H acc=none)(hz:L.length≤100000)(h:EmR K vars (jE J g tb) acc σ (upd H acc (.lst [])) L)
  (q:∀ σ' H' pre,Same H H'→H' acc=some (.lst pre)→Rows K H' pre L→D.nx σ' H'):jE J g tb D σ (upd H acc (.lst [])):=
 h _ [] [] aF Rows.nil (by simpa using hz) fun σ' H' pre' _ _ sx h1 h2=>q σ' H' pre' (lA ha sx) h1 (by simpa using h2)
end
end L2
namespace L2
open PySem PySem.Spec PyProof.Rows
open PySem.SeqAt
noncomputable def LtA (A:Around) (s:Shared) (u v:Value) (b:Bool):Prop:=∀ (prog:Program) (w:World) (E:Value→Shared→Prop) (Q:Value→Shared→Prop),Q (.bool b) s→wpAny (model prog w) A (richCompare .Lt u v) Q E s
noncomputable def EqA (A:Around) (s:Shared) (u v:Value) (b:Bool):Prop:=∀ (prog:Program) (w:World) (E:Value→Shared→Prop) (Q:Bool→Shared→Prop),Q b s→wpAny (model prog w) A (eqBool u v) Q E s
inductive aBc (A:Around) (s:Shared):List (Value × Value)→List (Bool × Bool)→Prop
 | nil:aBc A s [] []
 | cons {u v:Value} {e l:Bool} {r:List (Value × Value)} {zs:List (Bool × Bool)}:EqA A s u v e→(e=false→LtA A s u v l)→aBc A s r zs→aBc A s ((u,v) :: r) ((e,l) :: zs)
noncomputable def qE (f:Bool):List (Bool × Bool)→Bool
 | []=>f
 | (e,l) :: r=>if e=true then qE f r else l
theorem uN (l b:Addr)(us vs:Array Value)(n n2:Nat)(dd dd2:Option Addr)(sl sl2:Array (Option Value))(zs:List (Bool × Bool)) :
  Meets (Builtin.«tuple.__lt__» ⟨[.ref l, .ref b],[]⟩)
   (fun A R s=>s.heap.get? l=some { cls := .type "tuple",dict:=dd,data := .seq us n,slots:=sl }∧s.heap.get? b=some { cls := .type "tuple",dict:=dd2,data := .seq vs n2,slots:=sl2 }∧aBc A.in1 s (us.toList.zip vs.toList) zs∧R (.ok (.ret (.bool (qE (decide (us.size<vs.size)) zs)))) s):=
 .of_wp fun prog w A R s h=>by
  obtain ⟨s1,s2,s3,s4,s5⟩:=s
  obtain ⟨gl,gb,hz,h⟩:=h
  have f2:=AutoSeq1.sub_tuple_tuple
  wp_walk using AutoSeq1.wpAny_loadPart' gl,AutoSeq1.wpAny_loadPart' gb,wpAny_forIn_list _ (fun rest b s'=>b.1=none∧s'=⟨s1,s2,s3,s4,s5⟩∧∃ ys,aBc A.in1 ⟨s1,s2,s3,s4,s5⟩ rest ys∧R (.ok (.ret (.bool (qE (decide (us.size<vs.size)) ys)))) ⟨s1,s2,s3,s4,s5⟩) _
  case turn=>
   rintro ⟨y,x⟩ rest b s' ⟨hb',rfl,ys,hy,hR⟩
   cases hy with
   | @cons _ _ e l _ _ he hl hr=>
    refine wpAny_bind (he _ _ _ _ ?_)
    cases e with
    | true=>
     rw [qE,if_pos rfl] at hR
     wp_walk
     exact ⟨rfl,rfl,_,hr,hR⟩
    | false=>
     rw [qE,if_neg Bool.false_ne_true] at hR
     have hl':∀ {E:Value→Shared→Prop} {Q:Value→Shared→Prop},Q (.bool l) ⟨s1,s2,s3,s4,s5⟩→wpAny (model prog w) A.in1 (richCompare .Lt y x) Q E ⟨s1,s2,s3,s4,s5⟩:=fun {E Q}=>hl rfl prog w E Q
     wp_walk using hl'
     exact ⟨_,rfl,hR⟩
  case fin=>
   rintro ⟨b1,b2⟩ s' ⟨hb',rfl,ys,hy,hR⟩
   simp only at hb'
   subst hb'
   cases hy
   wp_walk
   exact ⟨_,rfl,hR⟩
  case h=>
   exact ⟨rfl,rfl,zs,hz,h⟩
theorem iJ:∀ {r q:List Int},eqL (r.map Dt.int) (q.map Dt.int)=true→r=q
 | [],[],_=>rfl
 | [],_ :: _,h=>by simp [eqL] at h
 | _ :: _,[],h=>by simp [eqL] at h
 | a :: r,b :: q,h=>by
  rw [List.map_cons,List.map_cons,eqL,Bool.and_eq_true] at h
  have h1:a=b:=by have:=h.1;rw [eqD] at this;exact eq_of_beq this
  rw [h1,iJ h.2]
theorem qK:∀ {us:List Value} {ns:List Int},IntsAre us ns→∀ j (h:j<us.length),∃ t,us[j] = .int (ns.getD j 0) t
 | _,_, .nil,j,h=>absurd h (Nat.not_lt_zero _)
 | _,_, .cons n t h,0,_=>⟨t,rfl⟩
 | _,_, .cons n t h,j+1,hj=>by
  obtain ⟨t',e⟩:=qK h j (by simpa using hj)
  exact ⟨t',by simpa using e⟩
theorem nX:∀ {us:List Value} {ns ms:List Int},IntsAre us ns→IntsAre us ms→ns=ms
 | _,_,_, .nil, .nil=>rfl
 | _,_,_, .cons n t h, .cons _ _ g=>by rw [nX h g]
theorem aAe {A:Around}{s:Shared}{c d:Addr}{us vs:List Value}{r q:List Int}(hu:A.units<cLine)(hc:IsTup s.heap c us.toArray)(hd:IsTup s.heap d vs.toArray)(h1:IntsAre us r)(h2:IntsAre vs q):EqA A s (.ref c) (.ref d) (eqL (r.map Dt.int) (q.map Dt.int)):=by
 by_cases hcd:c=d
 ·subst hcd
  have e:us=vs:=by
   obtain ⟨o,e1,_,n,e2⟩:=hc
   obtain ⟨o',e3,_,m,e4⟩:=hd
   rw [e1] at e3
   cases e3
   rw [e2] at e4
   have e5:us=vs∧n=m:=by simpa using e4
   exact e5.1
  subst e
  rw [nX h1 h2,eV]
  exact EqAt.same _
 ·have l1:=IntsAre.len h1
  have l2:=IntsAre.len h2
  have he:∀ (j:Nat) (h1:j<us.toArray.size) (h2:j<vs.toArray.size),EqAt A.in1 s us.toArray[j] vs.toArray[j] (eqD ((r.map Dt.int).getD j .non) ((q.map Dt.int).getD j .non)):=fun j g1 g2=>by
   have g1:j<us.length:=by simpa using g1
   have g2:j<vs.length:=by simpa using g2
   obtain ⟨t1,e1⟩:=qK h1 j g1
   obtain ⟨t2,e2⟩:=qK h2 j g2
   have q1:(r.map Dt.int).getD j .non = .int (r.getD j 0):=by
    rw [List.getD_eq_getElem?_getD,List.getElem?_map,List.getD_eq_getElem?_getD,List.getElem?_eq_getElem (by omega)]
    rfl
   have q2:(q.map Dt.int).getD j .non = .int (q.getD j 0):=by
    rw [List.getD_eq_getElem?_getD,List.getElem?_map,List.getD_eq_getElem?_getD,List.getElem?_eq_getElem (by omega)]
    rfl
   have e1':us.toArray[j] = .int (r.getD j 0) t1:=by simpa using e1
   have e2':vs.toArray[j] = .int (q.getD j 0) t2:=by simpa using e2
   rw [q1,q2,e1',e2',eqD]
   exact EqAt.int_int _ _ _ _
  have rc:=RcAt.tuples (A:=A) hc hd hu he
  rw [List.size_toArray,List.size_toArray,l1,l2] at rc
  have:=iZ (r.map Dt.int) (q.map Dt.int)
  rw [List.length_map,List.length_map] at this
  rw [this] at rc
  exact EqAt.of_refs hcd rc
end L2
namespace L2
open PySem PySem.Spec PyProof.Rows
section
variable {X:Cx}{tg:Expr}
end
end L2
namespace L2
open PySem PySem.Spec PyProof.Rows
section
variable {X:Cx}{pins:List (Addr × Obj)}{σ:St}{H:Hp}{s:Shared}
end
theorem KV.len {κ:Type}:∀ {l:List (κ × V)} {m:List (κ × Value)},KV l m→l.length=m.length
 | _,_, .nil=>rfl
 | _,_, .cons _ t=>by rw [List.length_cons,List.length_cons,KV.len t]
theorem KV.at {κ:Type}:∀ {l:List (κ × V)} {m:List (κ × Value)},KV l m→∀ {i:Nat} {k:κ} {x:Value},m[i]?=some (k,x)→∃ v,l[i]?=some (k,v)
 | _,_, .nil,_,_,_,h=>by cases h
 | _,_, .cons (a:=p) (b:=q) r t,0,k,x,h=>by
  have e:q=(k,x):=by simpa using h
  exact ⟨p.2,by rw [List.getElem?_cons_zero,show p=(k,p.2) from Prod.ext (by rw [r.1,e]) rfl]⟩
 | _,_, .cons _ t,i+1,k,x,h=>KV.at t (i:=i) (by simpa using h)
end L2
namespace L2
open PySem PySem.Spec PyProof.Rows
structure aAz (K:PySem.W.Frag)(C:Addr):Prop where
 ga:PySem.W.findIn K (.ref C) "__getattribute__" = some (some (.builtin "BaseException.__getattribute__"))
 gn:PySem.W.findIn K (.ref C) "__getattr__" = some none
 cl:PySem.W.findIn K (.ref C) "__class__" = some (some (.builtin "object.__class__"))
 gt:PySem.W.specialIn K (.builtin "object.__class__") "__get__" = some (some (.builtin "getset_descriptor.__get__"))
 tk:PySem.W.takesIn K (.builtin "object.__class__")=some true
 ob:PySem.W.mroIn K C (.type "object")=some true
 bx:PySem.W.subIn K (.ref C) (.type "BaseException")=some true
 is:(PySem.W.clsIn K C).isSome=true
noncomputable def XAt (h:Heap) (x C:Addr):Prop:=∃ o,h.get? x=some o∧o.cls = .ref C
section
open Builtin Builtin.ObjectAttr Builtin.Getset_descriptor
variable {prog:Program}{w:World}{A:Around}{E:Value→Shared→Prop}{s:Shared}{K:PySem.W.Frag}{x C:Addr}{R:Result→Shared→Prop}
theorem XAt.type {M:Model}{h:Heap}(I:XAt h x C):PySem.W.Looks M h (typeOf (.ref x)) (.ref C):=by
 obtain ⟨o,e,c⟩:=I
 exact c ▸ (PySem.W.Looks.ld e).andThen .now
theorem XAt.find {M:Model}{h:Heap}(X:K.In h)(Y:aAz K C):PySem.W.Looks M h (find (.ref x) (.ref C) "__class__") (.bind (.builtin "getset_descriptor.__get__") (.builtin "object.__class__")):=by
 have L1:=PySem.W.looks_findIn (M:=M) X Y.cl
 have L2:PySem.W.Looks M h (getOf (some (.builtin "object.__class__"))) (some (.builtin "getset_descriptor.__get__")):=PySem.W.looks_specialIn X Y.gt
 have L3:=PySem.W.looks_takesIn (M:=M) X Y.tk
 exact L1.andThen (L2.andThen ((show PySem.W.Looks M h (dataDescriptor? (some (.builtin "object.__class__")) (some (.builtin "getset_descriptor.__get__"))) (some (.builtin "getset_descriptor.__get__", .builtin "object.__class__")) from L3.andThen .now).andThen (PySem.W.Looks.tag .now)))
theorem sN {tp:Value}(X:K.In s.heap)(I:XAt s.heap x C)(hm:PySem.W.mroIn K C (.type "object")=some true)
  (h:R (.ok (.ret (.ref C))) s):codeAny (model prog w) A (.call (.builtin "getset_descriptor.__get__") ⟨[.builtin "object.__class__", .ref x,tp],[]⟩) R s:=by
 obtain ⟨hh,g,dr,t,os⟩:=s
 have L0:=I.type (M:=model prog w)
 have L1:=PySem.W.looks_mroIn (M:=model prog w) X hm
 refine codeAny_call_builtin PySem.W.KF.slot_gs.plain PySem.W.KF.entry_gs (PySem.W.KF.slot_gs.check _ _ _ _ _ _ _ _ PySem.W.KF.type_class (PySem.W.KF.args_gs _ _ _) ?_)
 unfold Builtin.«getset_descriptor.__get__» descrGet
 rw [PySem.W.dga_obj]
 refine wpAny_bind (wpAny_pure ?_)
 unfold descrGetter descrCheckInstance descrNameAndClass isInstance
 simp only [PySem.W.KF.owner_class]
 repeat lk
 refine ⟨Code.quiet_builtin _ (by decide +kernel),codeAny_builtin PySem.W.KF.entry_class ?_⟩
 unfold Builtin.«object.__class__» shownTypeOf
 repeat lk
 exact h
theorem xU {M:Model}{nameV:Value}{Q:Unit→Shared→Prop}(X:K.In s.heap)(I:XAt s.heap x C)(Y:aAz K C)(hq:Q () s) :
  wpAny M A (checkBuiltinCall "BaseException.__getattribute__" ⟨[.ref x,nameV],[]⟩) Q E s:=by
 obtain ⟨h,g,d,t,os⟩:=s
 have hk:builtinKind "BaseException.__getattribute__" = some .slot:=by decide +kernel
 have hsplit:splitId "BaseException.__getattribute__" = some ("BaseException","__getattribute__"):=by decide +kernel
 have L0:=I.type (M:=M)
 have L1:=PySem.W.looks_subIn (M:=M) X Y.bx
 have ha:=F.args_bexc_ga (.ref x) nameV
 simp only [checkBuiltinCall,hk,hsplit]
 refine wpAny_bind ?_
 unfold isInstance
 refine wpAny_bind (L0.at (L1.at ?_))
 repeat (any_goals (first | assumption | wp_step))
theorem vC {Q:Option Value→Shared→Prop}(X:K.In s.heap)(I:XAt s.heap x C)(Y:aAz K C)(h:Q (some (.ref C)) { s with toks:=s.toks+1 }) :
  wpAny (model prog w) A (getAttr? (.ref x) "__class__") Q E s:=by
 obtain ⟨hh,g,d,t,os⟩:=s
 have L0:=I.type (M:=model prog w)
 have L1:=PySem.W.looks_findIn (M:=model prog w) X Y.ga
 have L2:=PySem.W.looks_findIn (M:=model prog w) X Y.gn
 have L3:=XAt.find (M:=model prog w) (x:=x) X Y
 have hx2:(Value.builtin "BaseException.__getattribute__" == Value.builtin "object.__getattribute__")=false:=by decide +kernel
 have hx1:(onTheHeap (Value.ref C) && Value.builtin "BaseException.__getattribute__" == Value.builtin "object.__getattribute__")=false:=by rw [hx2];rfl
 unfold getAttr? getAttrBy? getAttrBy
 refine wpAny_bind (wpAny_mkText (wpAny_bind (wpAny_attempt (wpAny_holding (wpAny_bind (L0.at (wpAny_bind (L1.at ?_))))))))
 dsimp only
 rw [hx1,if_neg Bool.false_ne_true]
 unfold getAttrByItsOwn hookBefore
 rw [if_pos (show onTheHeap (Value.ref C)=true from rfl)]
 refine wpAny_bind (L2.at (wpAny_bind (wpAny_attempt (wpAny_holding ?_))))
 unfold callGetattribute
 rw [Bool.false_and,if_neg Bool.false_ne_true]
 unfold boundAndCalled
 rw [F.attr_ValueError.ga.bind]
 refine wpAny_bind (wpAny_pure ?_)
 refine wpAny_call (codeAny_call_builtin F.attr_ValueError.ga.plain F.entry_bexc_ga (xU X I Y ?_))
 unfold Builtin.«object.__getattribute__»
 refine wpAny_bind (wpAny_pure (wpAny_bind (wpAny_pure (wpAny_bind (L0.at (wpAny_bind (L3.at ?_)))))))
 show wpAny _ _ (do let v ← holding [Value.builtin "object.__class__"] (call (Value.builtin "getset_descriptor.__get__") [Value.builtin "object.__class__",Value.ref x,Value.ref C]);ret v) _ _ _
 refine wpAny_bind (wpAny_holding (wpAny_call (sN (s:=⟨hh,g,d,t+1,os⟩) X I Y.ob (wpAny_pure ?_))))
 refine PySem.W.handed_on rfl (wpAny_pure h)
theorem nG (Y:aAz K C):PySem.W.KitX K (.ref x) (.ref C) (fun h=>XAt h x C) where
 ty:=fun _ _ _ I=>I.type
 it:=fun _ _ X _=>by
  obtain ⟨cd,hc⟩:=Option.isSome_iff_exists.mp Y.is
  unfold PySem.W.clsIn at hc
  split at hc
  ·rename_i c' d' cd' sl' ho
   intro A' Q' E' s' k q
   unfold isType loadHead
   exact wpAny_bind (wpAny_loadPart (k _ _ (X _ _ ho)) (wpAny_pure q))
  ·cases hc
 ne:=fun h tp dd its n sl X htp=>by
  obtain ⟨cd,hc⟩:=Option.isSome_iff_exists.mp Y.is
  refine Bool.eq_false_iff.mpr fun q=>?_
  have e:C=tp:=Value.ref.inj (beq_iff_eq.mp q)
  subst e
  unfold PySem.W.clsIn at hc
  split at hc
  ·rename_i c' d' cd' sl' ho
   have z:=(X _ _ ho).symm.trans htp
   cases z
  ·cases hc
 ca:=fun X I k=>vC X I Y k
end
noncomputable def tJ (a C:Addr):HO := .ext fun h=>XAt h a C
theorem zT {P:Program}{w:World}{H:Hp}{h:Heap}{a C:Addr}(x:XAt h a C):ObjOk P w H h a (tJ a C):=
 ⟨x,let ⟨o,e,_⟩:=x;⟨o,e⟩,fun _ _ ⟨o,e,c⟩ k=>⟨o,k o e,c⟩⟩
noncomputable def aCY (K:PySem.W.Frag) (H:Hp) (C:Addr) (c:V) (b:Bool):Prop:=
 (∃ n,c = .ty n∧PySem.W.kitOne K (.ref C) (.type n)=some b)∨(∃ D,c = .ref D∧PySem.W.kitOne K (.ref C) (.ref D)=some b) ∨
  ∃ (tp:Addr) (Ds:List Addr),c = .ref tp∧H tp=some (.tup (Ds.map V.ref))∧PySem.W.kitAny K (.ref C) (Ds.map Value.ref)=some b
noncomputable def rX (K:PySem.W.Frag):List V→Hp→VK→Prop:=fun vs H Q=>∃ a C c b,vs=[.ref a,c]∧H a=some (tJ a C)∧aAz K C∧aCY K H C c b∧Q (.bl b) H
theorem pP:∀ {Ds:List Addr} {us:List Value},Vals (Ds.map V.ref) us→us=Ds.map Value.ref
 | [],_, .nil=>rfl
 | _ :: _,_, .cons r t=>by
  obtain rfl:=r
  rw [pP t];rfl
section
variable {X:Cx}
theorem yD:CallR X (.builtin "isinstance") (rX X.K):=by
 intro pins s σ H xs us Q I r ⟨a,C,c,b,e,ha,Y,hc,q⟩
 subst e
 obtain ⟨u,v,rfl,rx,rc⟩:=r.two
 obtain rfl:u=Value.ref a:=rx
 have fin:∀ t:Nat,EP X pins σ Q (.bool b) { s with toks:=t }:=fun t=>⟨.bl b,H,I.tok t,rfl,q⟩
 have xa:XAt s.heap a C:=(I.hok a _ ha).1
 rcases hc with ⟨n,rfl,k⟩ | ⟨D,rfl,k⟩ | ⟨tp,Ds,rfl,ht,k⟩
 ·obtain rfl:v=Value.type n:=rc
  exact PySem.W.kia_one (nG Y) I.kIn xa k (by intro z;cases z) fin
 ·obtain rfl:v=Value.ref D:=rc
  exact PySem.W.kia_one (nG Y) I.kIn xa k (by intro z;cases z) fin
 ·obtain rfl:v=Value.ref tp:=rc
  obtain ⟨_,its,rv,o,e1,e2,⟨m,e3⟩,_⟩:=I.hok tp _ ht
  obtain ⟨oc,od,dt,sl⟩:=o
  dsimp only at e2 e3
  subst e2 e3
  obtain rfl:=pP rv
  exact PySem.W.kia_tup (nG Y) I.kIn xa e1 k (by intro z;cases z) fin
theorem eP {K:PySem.W.Frag}(hK:X.K=K):CallR X (.builtin "isinstance") (rX K):=by subst hK;exact yD
end
noncomputable abbrev aBF:List Value:=[.type "ValueError", .type "Exception", .type "BaseException", .type "object"]
theorem zI {K:PySem.W.Frag}{h:Heap}{C:Addr}{bmB:List Value}{newId:String}(X:K.In h)(q:PySem.W.excIn K C bmB newId=true) :
  ∃ bm N nm qn bs hdct sn sub ab col dd k0 k1 k2 k3 k5 mN,h.get? C=some (excClassObj nm qn C N bs bm hdct sn sub ab col dd k0 k1 k2 k3 k5 newId)∧h.Ns N mN∧mN "__init__" = none∧OwnTail h bmB bm:=by
 unfold PySem.W.excIn at q
 split at q
 ·rename_i dd cd sl ho
  split at q
  ·rename_i C' bm k0 k1 k2 k3 n k5 hm hs
   simp only [Bool.and_eq_true,beq_iff_eq,Bool.not_eq_true'] at q
   obtain ⟨⟨⟨⟨⟨rfl,rfl⟩,hdel⟩,ht⟩,hok⟩,hni⟩:=q
   obtain ⟨nm,bs,mro,ns,qn,hd,sn,sub,ab,col,del⟩:=cd
   dsimp only at hm hdel hok hni
   subst hm hdel
   have hsl:sl=#[k0,k1,k2,k3,some (.builtin n),k5]:=by
    obtain ⟨l⟩:=sl
    simp only at hs
    rw [hs]
   subst hsl
   exact ⟨bm,ns,nm,qn,bs,hd,sn,sub,ab,col,dd,k0,k1,k2,k3,k5,_,X _ _ ho, .of_isNs (PySem.W.isNs_of_in X hok),PySem.W.nsMap_none_of_in X hok hni,PySem.W.tail_of_in X ht⟩
  ·cases q
 ·cases q
noncomputable def uI (X:Cx) (E:XK):Prop:=∀ (pins:List (Addr × Obj)) (σ:St) (H:Hp) (s:Shared) (cls:Value) (e:Addr) (vs:List Value) (h':Heap),Inv X pins σ H s→E cls none H→Heap.MadeExcOf s.heap h' e cls vs→X.xe (.ref e) { s with heap:=h' }
noncomputable def uK (C:Addr) (E:XK):TS:=fun _ _ H=>E (.ref C) none H
section
variable {X:Cx}{x:Str}{np cpos pos p:Pos}{C:Addr}{E:XK}{m:Str}{j:Nat}
theorem yC (T:uI X E)(hc:X.calm=true)(hg:Gl X x)(hm:X.mg x=some (.ref C))(q:PySem.W.excIn X.K C aBF "ValueError.__new__" = true)(hdb:(x == ("__debug__" : Str))=false:=by decide) :
  PS X (.Raise (some (.Call (.Name x np) [.Constant (.str m) j p] [] cpos)) none pos) (uK C E):=by
 intro pins s σ H D I h
 obtain ⟨bm,N,nm,qn,bs,hdct,sn,sub,ab,col,dd,k0,k1,k2,k3,k5,mN,hC,hN,hni,TL⟩:=zI I.kIn q
 refine wpAny_Raise_call_subT (C:=C) (nm:=nm) (q:=qn) (N:=N) (bs:=bs) (bm:=bm) (hdct:=hdct) (sn:=sn) (sub:=sub) (ab:=ab) (col:=col) (dd:=dd) (k0:=k0) (k1:=k1) (k2:=k2) (k3:=k3) (k5:=k5)
  F.excBase_ValueError (mN:=mN) (TL.hasType F.excBase_ValueError.hasBase) (I.ok.hd hc) rfl hni (nM I hg hm ⟨rfl,?_⟩ hdb)
 refine Calls.evalArgs_plain (Calls.spliced_cons (Calls.Constant_str (k:=j) (pos:=p) (Calls.spliced_nil ⟨rfl,?_,hC,hN,TL,fun h' e hx=>?_⟩)))
 ·show 1≤sizeLine
  decide
 ·exact T pins σ H _ _ e _ h' (I.tok _) h hx
end
noncomputable def mW (P:Program) (w:World):CXT:=fun outer H s E e s'=>
 ∃ (a:Addr) (cls a0:Value) (H':Hp) (B:Heap),e = .ref a∧s'.os=s.os∧AllBare s'.gens∧Un (frs outer) [] H H' s.heap s'.heap∧HOk P w H' s'.heap ∧
  Heap.FlyingW B outer a cls a0 s'.heap∧(∀ b o,s'.heap.get? b=some o→b∉frs outer→(H' b≠none∨∃ o',s.heap.get? b=some o')→B.get? b=some o)∧E cls none H'
section
variable {X:Cx}{pins:List (Addr × Obj)}{σ:St}{H:Hp}{s:Shared}{E:XK}{a:Addr}{cls a0:Value}{B h2:Heap}
theorem ObjOk.there {P:Program}{w:World}{H:Hp}{h:Heap}{a:Addr}:∀ {o:HO},ObjOk P w H h a o→∃ u,h.get? a=some u
 | .lst _,⟨_,_,_,_,e⟩=>⟨_,e⟩
 | .tup _,⟨_,_,_,o,e,_⟩=>⟨_,e⟩
 | .dK _,⟨_,_,_,_,o,_,_,e,_⟩=>⟨_,e⟩
 | .dT _,⟨_,_,_,_,o,_,_,e,_⟩=>⟨_,e⟩
 | .set _ _,⟨o,_,_,_,e,_⟩=>⟨_,e⟩
 | .ins _ _ _,⟨_,_,_,e,_⟩=>⟨_,e⟩
 | .own _,⟨_,e⟩=>⟨_,e⟩
 | .xd _,⟨_,⟨_,_,_,e,_⟩,_⟩=>⟨_,e⟩
 | .rng _ _,⟨_,_,_,e⟩=>⟨_,e⟩
 | .frz _ _,⟨e,_⟩=>⟨_,e⟩
 | .tbl _,e=>⟨_,e⟩
 | .met _ _,e=>⟨_,e⟩
 | .ext _,⟨_,e,_⟩=>e
theorem sB (hex:X.ex=[])(J:Inv X pins σ H s)(hfl:Heap.FlyingW B X.outer a cls a0 h2)(up:s.heap.UpToSlots h2)
  (cov:∀ b o,s.heap.get? b=some o→b∉frs X.stack→(H b≠none∨∃ o',X.s₀.heap.get? b=some o')→B.get? b=some o) (hE:E cls none H):mW X.prog X.w X.outer X.H₀ X.s₀ E (.ref a) { s with heap:=h2 }:=by
 have neL:∀ b o,X.s₀.heap.get? b=some o→b≠X.env.locals:=fun b o e=>Nat.ne_of_lt (Nat.lt_of_lt_of_le (Heap.lt_size e) J.ok.above)
 have nx:∀ b:Addr,b∉X.ex:=fun b z=>by rw [hex] at z;cases z
 have nst:∀ b,b≠X.env.locals→b∉frs X.outer→b∉frs X.stack:=fun b h1 h2 z=>(List.mem_cons.mp (J.stkSub b z)).elim h1 h2
 have tr:∀ b u o,H b=some u→s.heap.get? b=some o→h2.get? b=some o:=fun b u o e q=>
  hfl.1 b o (cov b o q (fun z=>by rw [J.stkFree b z] at e;cases e) (.inl (by rw [e];exact fun z=>by cases z)))
 have ko:∀ b o,X.s₀.heap.get? b=some o→∀ o1,s.heap.get? b=some o1→b∉frs X.outer→h2.get? b=some o1:=fun b o e o1 q n=>hfl.1 b o1 (cov b o1 q (nst b (neL b o e) n) (.inr ⟨o,e⟩))
 refine ⟨a,cls,a0,H,B,rfl,J.os,J.bare,⟨fun b o e n hb _=>?_,fun b o e n hb _=>?_,fun b o e n _=>?_,fun b o e _=>?_,J.base.tups,J.base.frzs,J.base.tbls⟩,fun b u e=>?_,hfl,fun b o e n hc=>?_,hE⟩
 ·exact ko b o e o (J.base.keep b o e n hb (nx b)) hb
 ·obtain ⟨sl,e1⟩:=J.base.slot b o e n hb (nx b)
  obtain ⟨_,o2,e2,nf⟩:=J.funs.mem hb
  rw [e1] at e2;cases e2
  obtain ⟨sl',e3⟩:=up b _ e1 nf
  exact ⟨sl',e3⟩
 ·exact J.base.free b o e n (nx b)
 ·obtain ⟨o1,e1⟩:=J.base.there b o e (nx b)
  by_cases hb:b∈frs X.outer
  ·obtain ⟨_,o2,e2,nf⟩:=J.funs.mem hb
   obtain ⟨sl',e3⟩:=up b _ e2 nf
   exact ⟨_,e3⟩
  ·exact ⟨o1,ko b o e o1 e1 hb⟩
 ·refine (J.hok b u e).stay (fun c v hc q=>?_) (fun _ q=>q) fun _ _ q=>q
  rcases hc with z | z
  ·rw [z] at q ⊢;exact tr b u v e q
  ·exact tr c _ v z q
 ·rcases hc with hc | ⟨o',e'⟩
  ·cases hu:H b with
   | none=>exact absurd hu hc
   | some u=>
    obtain ⟨o1,e1⟩:=(J.hok b u hu).there
    have e2:=tr b u o1 hu e1
    rw [e] at e2;cases e2
    exact cov b o e1 (fun z=>by rw [J.stkFree b z] at hu;cases hu) (.inl hc)
  ·obtain ⟨o1,e1⟩:=J.base.there b o' e' (nx b)
   have e2:=ko b o' e' o1 e1 n
   rw [e] at e2;cases e2
   exact cov b o e1 (nst b (neL b o' e') n) (.inr ⟨o',e'⟩)
end
section
variable {P:Program}{w:World}{K:PySem.W.Frag}{mg:Str→Option Value}{base:Heap}{N:List Str}{qual:Str}{scope:Scope}{f:Addr}{cd:Value}{A:Around}{outer:List Env}{s₀:Shared}{H₀:Hp}{E:XK}
theorem tE:uI (rN (mW P w) P w K mg base N qual scope f cd A outer s₀ H₀ E) E:=by
 intro pins σ H s cls e vs h' I hE hx
 have hin:∀ env∈(rN (mW P w) P w K mg base N qual scope f cd A outer s₀ H₀ E).stack,∀ b,env.frame=some b→b∈frs (rN (mW P w) P w K mg base N qual scope f cd A outer s₀ H₀ E).stack:=fun env he b hb=>List.mem_filterMap.mpr ⟨env,he,hb⟩
 show wpAny _ _ _ _ _ _
 refine wpAny_leaves_madeW (base:=PySem.W.hideAll s.heap (frs (rN (mW P w) P w K mg base N qual scope f cd A outer s₀ H₀ E).stack)) I.ok.frames rfl (fun b o q=>PySem.W.of_hideAll _ q) (PySem.W.funFrames_hide I.stack hin) hx fun h2 t x1 _ _ x4=>?_
 exact sB (s:={ s with heap:=s.heap }) rfl I x1 ((Heap.UpToSlots.of_keeps hx.keeps).trans x4) (fun b o q n _=>PySem.W.hideAll_get _ q n) hE
theorem tO:iR (mW P w) (rN (mW P w) P w K mg base N qual scope f cd A outer s₀ H₀ E) E:=by
 intro pins σ H s e s' I ⟨a,cls,a0,H',B,he,os,bare,un,hok,hfl,cov,hE⟩
 subst he
 have J:Inv (rN (mW P w) P w K mg base N qual scope f cd A outer s₀ H₀ E) pins σ H' s':=I.call' os un hok bare (fun b z=>absurd z (by simp))
 show wpAny _ _ _ _ _ _
 refine wpAny_leaves_onW I.ok.frames rfl hfl fun h2 x1 x2=>?_
 exact sB rfl J x1 x2 (fun b o q n hc=>cov b o q n (hc.elim .inl fun ⟨o',z⟩ => .inr (I.base.there b o' z (by simp [rN])))) hE
end
end L2
namespace L2
open PySem PySem.Spec PyProof.Rows
section
variable {X:Cx}{pins:List (Addr × Obj)}{σ:St}{H:Hp}{s:Shared}
theorem wR {M:Model}{A:Around}{E:Value→Shared→Prop}{i:Nat}{x:Str}{Q:Bool→Shared→Prop}(I:Inv X pins σ H s)(hN:X.N.Nodup)(hi:X.N[i]?=some x)
  (h:∀ s' m,s.heap.Ns X.env.locals m→Inv X pins (σ.set i none) H s'→Q (m x).isSome s'):wpAny M A (nsDel X.env.locals x) Q E s:=by
 obtain ⟨m,hn,hl⟩:=id I.loc
 have hiσ:i<σ.length:=by rw [I.len];exact (List.getElem?_eq_some_iff.mp hi).1
 have cne:=I.cne
 obtain ⟨oL,_,_,hoL,_⟩:=id hn
 refine wpAny_nsDel_keeps hn fun h' w' hn' hs=>?_
 refine h { s with heap:=h' } m hn ⟨I.ok,I.os,I.bare,⟨fun b o e n hb hx=>?_,fun b o e n hb hx=>?_,I.base.free,fun b o e hx=>?_,I.base.tups,I.base.frzs,I.base.tbls⟩,⟨_,hn',fun j y v' e1 e2 e3=>?_⟩,fun y c e=>?_,I.free,I.freeC,fun p hp=>?_,fun b ob e=>?_,by simpa using I.len⟩
 ·exact (hs.2 b (Nat.ne_of_lt (Nat.lt_of_lt_of_le (Heap.lt_size e) I.ok.above))).trans (I.base.keep b o e n hb hx)
 ·obtain ⟨sl,e1⟩:=I.base.slot b o e n hb hx
  exact ⟨sl,(hs.2 b (Nat.ne_of_lt (Nat.lt_of_lt_of_le (Heap.lt_size e) I.ok.above))).trans e1⟩
 ·obtain ⟨o',e1⟩:=I.base.there b o e hx
  exact ⟨o',(hs.2 b (Nat.ne_of_lt (Nat.lt_of_lt_of_le (Heap.lt_size e) I.ok.above))).trans e1⟩
 ·by_cases hj:j=i
  ·subst hj
   rw [List.getElem?_set_self hiσ] at e2
   cases e2
  ·rw [List.getElem?_set_ne (Ne.symm hj)] at e2
   obtain ⟨u',r',q⟩:=hl j y v' e1 e2 e3
   refine ⟨u',r',?_⟩
   rcases q with ⟨k,e⟩ | ⟨k,c,e,z⟩
   ·refine .inl ⟨k,?_⟩
    have:y≠x:=fun e=>hj (nN hN e1 (e ▸ hi))
    simp [this,e]
   ·exact .inr ⟨k,c,e,z.sameBut hs (cne y c e)⟩
 ·obtain ⟨w',z⟩:=I.cell y c e
  exact ⟨w',z.sameBut hs (cne y c e)⟩
 ·obtain ⟨e,n,ne,nf,d⟩:=I.pin p hp
  exact ⟨(hs.2 p.1 ne).trans e,n,ne,nf,d⟩
 ·refine (I.hok b ob e).stay (fun c w' hc q=>(hs.2 c ?_).trans q) (fun _ q=>q) fun _ _ q=>q
  rintro rfl
  rcases hc with rfl | hc
  ·rw [I.free] at e;cases e
  ·rw [I.free] at hc;cases hc
theorem yA {i:Nat}{v w:Option V}:(σ.set i v).set i w=σ.set i w:=List.set_set ..
theorem iD {M:Model}{A:Around}{E:Value→Shared→Prop}{i:Nat}{x:Str}{pos:Pos}{Q:Unit→Shared→Prop}(I:Inv X pins σ H s)(hN:X.N.Nodup)(hi:X.N[i]?=some x)(hx:X.env.scope.names.lookup x=some .local)
  (h:∀ s',Inv X pins (σ.set i none) H s'→Q () s'):wpAny M A (do bindName X.env x .none;unbindBehindTheSuite X.env x pos) Q E s:=by
 have hcls:(X.env.scope.kind == .class || (X.env.scope.kind == .module && X.env.locals != X.env.globals))=false:=by rw [I.ok.kind];rfl
 have hk:X.env.kindOf x=some .local:=hx
 refine wpAny_bind (wpAny_bindName (kK (v := .non) I hN hi (.inl hx) rfl (fun s' I'=>?_) (.inr hx)))
 unfold unbindBehindTheSuite
 refine wpAny_onRaise ?_
 unfold unbindName
 refine wpAny_bind (wpAny_point (wpAny_bind ?_))
 unfold deleteName
 simp only [hk,hcls]
 rw [if_neg (by decide)]
 refine wpAny_bind (wR I' hN hi fun s2 m hm I2=>?_)
 have hs:(m x).isSome=true:=by
  obtain ⟨m',hn',hl'⟩:=I'.loc
  obtain ⟨u,ru,q⟩:=hl' i x .non hi (List.getElem?_set_self (by rw [I.len];exact (List.getElem?_eq_some_iff.mp hi).1)) (.inl hx)
  rcases q with ⟨_,e⟩ | ⟨k,_⟩
  ·have:m=m':=by
    funext y
    obtain ⟨o,es,ep,ho,hd,hk',hm'⟩:=hm
    obtain ⟨o',es',ep',ho',hd',hk'',hm''⟩:=hn'
    rw [ho] at ho';cases ho'
    rw [hd] at hd';cases hd'
    rw [← hm' y,← hm'' y]
   rw [this,e];rfl
  ·rw [hk] at k;rcases k with k | k <;> cases k
 rw [hs]
 simp only [Bool.not_true,Bool.false_eq_true,if_false]
 refine wpAny_pure (wpAny_point (h s2 ?_))
 rw [yA] at I2
 exact I2
end
noncomputable abbrev Cx.tried (X:Cx) (pn:List (Addr × Obj)) (W:Value→Shared→Prop):Cx:={ X with pn:=pn,xe:=W }
noncomputable abbrev Cx.suite (X:Cx) (pn:List (Addr × Obj)) (a:Addr):Cx:={ X with pn:=pn,xe:=fun _ _=>False,A:=X.A.mark (some (.ref a)),calm:=false }
section
variable {X:Cx}{pins pn pins':List (Addr × Obj)}{σ:St}{H H':Hp}{s s':Shared}{W:Value→Shared→Prop}{a C:Addr}{cls a0:Value}{B h2:Heap}
theorem Inv.tried (I:Inv X pins σ H s)(W:Value→Shared→Prop):Inv (X.tried (X.pn++pins) W) [] σ H s:=
 ⟨⟨I.ok.mod,I.ok.kind,I.ok.glob,I.ok.blt,I.ok.above,I.ok.inj,I.ok.has,I.ok.cab,I.ok.hd,I.ok.frames,I.ok.stk,I.ok.exf,I.ok.bs,I.ok.bsz,I.ok.noex,I.ok.exfs,I.ok.funs,I.ok.frf⟩,I.os,I.bare,I.base,I.loc,I.cell,I.free,I.freeC,
  fun p hp=>I.pin p (by simpa using hp),I.hok,I.len⟩
theorem Inv.untried (I:Inv (X.tried (X.pn++pins) W) pins' σ H s):Inv X pins σ H s:=
 ⟨⟨I.ok.mod,I.ok.kind,I.ok.glob,I.ok.blt,I.ok.above,I.ok.inj,I.ok.has,I.ok.cab,I.ok.hd,I.ok.frames,I.ok.stk,I.ok.exf,I.ok.bs,I.ok.bsz,I.ok.noex,I.ok.exfs,I.ok.funs,I.ok.frf⟩,I.os,I.bare,I.base,I.loc,I.cell,I.free,I.freeC,
  fun p hp=>I.pin p (List.mem_append_left _ hp),I.hok,I.len⟩
theorem Inv.suite (I:Inv X pins σ H s)(a:Addr):Inv (X.suite (X.pn++pins) a) [] σ H s:=
 ⟨⟨I.ok.mod,I.ok.kind,I.ok.glob,I.ok.blt,I.ok.above,I.ok.inj,I.ok.has,I.ok.cab,(fun z=>by cases z),I.ok.frames,I.ok.stk,I.ok.exf,I.ok.bs,I.ok.bsz,I.ok.noex,I.ok.exfs,I.ok.funs,I.ok.frf⟩,I.os,I.bare,I.base,I.loc,I.cell,I.free,I.freeC,
  fun p hp=>I.pin p (by simpa using hp),I.hok,I.len⟩
theorem Inv.unsuite (ok:X.Ok)(I:Inv (X.suite (X.pn++pins) a) pins' σ H s):Inv X pins σ H s:=
 ⟨ok,I.os,I.bare,I.base,I.loc,I.cell,I.free,I.freeC,fun p hp=>I.pin p (List.mem_append_left _ hp),I.hok,I.len⟩
theorem pN (I:Inv X pins σ H s)(os:s'.os=s.os)(bare:AllBare s'.gens)(un:Un (frs X.stack) [] H H' s.heap s'.heap)(hok:HOk X.prog X.w H' s'.heap)
  (cov:∀ b o,s'.heap.get? b=some o→b∉frs X.stack→(H' b≠none∨∃ o',s.heap.get? b=some o')→B.get? b=some o)
  (hfl:Heap.FlyingW B X.stack a (.ref C) a0 h2) (up:s'.heap.UpToSlots h2) (ha:∃ oe,s'.heap.get? a=some oe):H' a=none∧Inv X pins σ (upd H' a (tJ a C)) { s' with heap:=h2 }:=by
 obtain ⟨f1,f2,f3,f4⟩:=id hfl
 have sf:∀ b∈frs X.stack,H' b=none:=fun b hb=>by
  obtain ⟨_,o,ho,_⟩:=I.stack.mem hb
  exact un.free b o ho (I.stkFree b hb) (by simp)
 have na:a∉frs X.stack:=fun hb=>by
  obtain ⟨_,o,ho,nf⟩:=f3.mem hb
  obtain ⟨oe,vs,_,_,_,e1,_,e2,_⟩:=f4
  rw [ho] at e1;cases e1
  exact nf vs e2
 have hn:H' a=none:=by
  cases q:H' a with
  | none=>rfl
  | some u=>
   obtain ⟨oe,e⟩:=ha
   have:=cov a oe e na (.inl (by rw [q];exact fun z=>by cases z))
   rw [f2] at this;cases this
 have hs:s.heap.get? a=none:=by
  cases q:s.heap.get? a with
  | none=>rfl
  | some o=>
   obtain ⟨oe,e⟩:=ha
   have:=cov a oe e na (.inr ⟨o,q⟩)
   rw [f2] at this;cases this
 have tr:∀ b u o,H' b=some u→s'.heap.get? b=some o→h2.get? b=some o:=fun b u o e q=>
  f1 b o (cov b o q (fun z=>by rw [sf b z] at e;cases e) (.inl (by rw [e];exact fun z=>by cases z)))
 have nb:∀ b o,s.heap.get? b=some o→b≠a:=fun b o e z=>by rw [z,hs] at e;cases e
 have nt:∀ b u,H' b=some u→b≠a:=fun b u e z=>by rw [z,hn] at e;cases e
 refine ⟨hn,I.call' (s':={ s' with heap:=h2 }) (ch:=[]) os ⟨fun b o e n hb _=>?_,fun b o e n hb _=>?_,fun b o e n _=>?_,fun b o e _=>?_,fun b xs e=>?_,fun b o u e=>?_,fun b ps e=>?_⟩ (fun b u e=>?_) bare (fun b z=>absurd z (by simp))⟩
 ·exact f1 b o (cov b o (un.keep b o e n hb (by simp)) hb (.inr ⟨o,e⟩))
 ·obtain ⟨sl,e1⟩:=un.slot b o e n hb (by simp)
  obtain ⟨_,o2,e2,nf⟩:=I.stack.mem hb
  rw [e] at e2;cases e2
  obtain ⟨sl',e3⟩:=up b _ e1 nf
  exact ⟨sl',e3⟩
 ·rw [aP (nb b o e)];exact un.free b o e n (by simp)
 ·obtain ⟨o1,e1⟩:=un.there b o e (by simp)
  by_cases hb:b∈frs X.stack
  ·obtain ⟨_,o2,e2,nf⟩:=I.stack.mem hb
   obtain ⟨sl,e3⟩:=un.slot b o2 e2 (I.stkFree b hb) hb (by simp)
   obtain ⟨sl',e4⟩:=up b _ e3 nf
   exact ⟨_,e4⟩
  ·exact ⟨o1,f1 b o1 (cov b o1 e1 hb (.inr ⟨o,e⟩))⟩
 ·have:=un.tups b xs e
  rw [aP (nt b _ this)];exact this
 ·have:=un.frzs b o u e
  rw [aP (nt b _ this)];exact this
 ·obtain ⟨more,this⟩:=un.tbls b ps e
  exact ⟨more,by rw [aP (nt b _ this)];exact this⟩
 ·by_cases hb:b=a
  ·subst hb
   rw [aF] at e;cases e
   obtain ⟨ob,e1,e2⟩:=hfl.there
   exact zT ⟨ob,e1,e2⟩
  ·rw [aP hb] at e
   refine (hok b u e).stay (fun c v hc q=>?_) (fun c q=>by rw [aP (nt c _ q)];exact q) fun c xs q=>by rw [aP (nt c _ q)];exact q
   rcases hc with z | z
   ·rw [z] at q ⊢;exact tr b u v e q
   ·exact tr c _ v z q
end
noncomputable def aCv (K:PySem.W.Frag) (C0:Addr) (ie ln:Nat) (tb:XK→TS) (th:TS):TS:=fun D σ H=>
 tb (fun cls _ H1=>∃ C,cls = .ref C∧PySem.W.exmOne K (.ref C) (.ref C0)=some true∧∀ (a:Addr) (σ':St),H1 a=none→σ'.length=ln →
  th { nx:=fun σ2 H2=>D.nx (σ2.set ie none) H2,rt:=D.rt,bk:=fun σ2 H2=>D.bk (σ2.set ie none) H2,ct:=fun σ2 H2=>D.ct (σ2.set ie none) H2 } (σ'.set ie (some (.ref a))) (upd H1 a (tJ a C))) D σ H
section
variable {X:Cx}{x n:Str}{np pos hpos:Pos}{C0:Addr}{ie ln:Nat}{tb:XK→TS}{th:TS}{body suite:List Stmt}{b₀:Stmt}
theorem SP.untried {pins:List (Addr × Obj)}{W:Value→Shared→Prop}{D:lO}{f:Flow}{s':Shared}(h:SP (X.tried (X.pn++pins) W) [] D f s'):SP X pins D f s':=by
 cases f with
 | next=>obtain ⟨σ',H',I,q⟩:=h;exact ⟨σ',H',I.untried,q⟩
 | brk=>obtain ⟨σ',H',I,q⟩:=h;exact ⟨σ',H',I.untried,q⟩
 | cont=>obtain ⟨σ',H',I,q⟩:=h;exact ⟨σ',H',I.untried,q⟩
 | ret u=>obtain ⟨v,σ',H',I,r,q⟩:=h;exact ⟨v,σ',H',I.untried,r,q⟩
theorem aBt (hst:X.stack=X.env :: X.outer)(hfr:X.env.frame=some X.env.locals)(hln:X.N.length=ln)(hN:X.N.Nodup)(hi:X.N[ie]?=some n)(hx:X.env.scope.names.lookup n=some .local)
  (hg:Gl X x) (hm:X.mg x=some (.ref C0)) (hb:∀ pn W E,iR (mW X.prog X.w) (X.tried pn W) E→PSs (X.tried pn W) body (tb E)) (hs:∀ pn a,PSs (X.suite pn a) (b₀ :: suite) th) (hdb:(x == ("__debug__" : Str))=false:=by decide) :
  PS X (.Try body [.ExceptHandler (some (.Name x np)) (some n) (b₀ :: suite) hpos] [] [] pos) (aCv X.K C0 ie ln tb th):=by
 intro pins s σ H D I h
 have hps:=hb (X.pn++pins) (fun e s'=>∃ pins' σ1 H1 s1,Inv (X.tried (X.pn++pins) fun _ _=>False) pins' σ1 H1 s1∧mW X.prog X.w X.stack H1 s1 _ e s') _ (fun pins' σ1 H1 s1 e s' I1 hl=>⟨pins',σ1,H1,s1,⟨⟨I1.ok.mod,I1.ok.kind,I1.ok.glob,I1.ok.blt,I1.ok.above,I1.ok.inj,I1.ok.has,I1.ok.cab,I1.ok.hd,I1.ok.frames,I1.ok.stk,I1.ok.exf,I1.ok.bs,I1.ok.bsz,I1.ok.noex,I1.ok.exfs,I1.ok.funs,I1.ok.frf⟩,I1.os,I1.bare,I1.base,I1.loc,I1.cell,I1.free,I1.freeC,I1.pin,I1.hok,I1.len⟩,hl⟩) [] s σ H D (I.tried _) h
 refine wpAny_Try_except (wpAny_mono hps (fun f s1 q=>?_) fun e s1 q=>?_)
 ·cases f with
  | next=>exact wpAny_execs_nil q.untried
  | brk=>exact q.untried
  | cont=>exact q.untried
  | ret u=>exact q.untried
 ·obtain ⟨pins',σ1,H1,s0,I1,a,cls,a0,H',B,he,os,bare,un,hok,hfl,cov,C,hc,hex,hth⟩:=q
  subst he hc
  have hfl0:=hfl
  rw [hst] at hfl
  have hfrm:X.A.frames=some (X.env :: X.outer):=by rw [← hst];exact I.ok.frames
  obtain ⟨oe,hoe,_⟩:=hfl0.there
  refine wpAny_looks_onW hfrm hfr hfl fun h4 hheld4 up4=>?_
  refine wpAny_landsW hheld4 fun h5 hfl5 up5=>?_
  have up5':=up4.trans up5
  obtain ⟨hna,J5⟩:=pN (X:=X.tried (X.pn++pins) fun _ _=>False) I1 os bare un hok cov (by rw [hst];exact hfl5) up5' ⟨oe,hoe⟩
  have J5s:=J5.untried.suite a
  refine wpAny_handleBy_cons (codeAny_handlers_test (nM J5s hg hm ?_ hdb)) (by intro z;cases z)
  obtain ⟨ob,hob,hobc⟩:=hfl5.there
  have LT:PySem.W.Looks (model X.prog X.w) h5 (typeOf (.ref a)) (.ref C):=XAt.type ⟨ob,hob,hobc⟩
  refine (PySem.W.exm_one J5.kIn LT hex).at ?_
  refine codeAny_handlers_suite_as ?_
  refine lands_againW hfl5 fun h6 hfl6 up6=>?_
  obtain ⟨_,J6⟩:=pN (X:=X.tried (X.pn++pins) fun _ _=>False) I1 os bare un hok cov (by rw [hst];exact hfl6) (up5'.trans up6) ⟨oe,hoe⟩
  have J6s:=J6.untried.suite a
  refine kK (X:=X.suite (X.pn++pins) a) (v := .ref a) J6s hN hi (.inl hx) rfl (fun s7 J7=>?_) (.inr hx)
  refine wpAny_mono (hs (X.pn++pins) a [] s7 _ _ _ J7 (hth a σ1 hna (by rw [I1.len];exact hln))) (fun f s8 q=>?_) fun _ _ z=>False.elim z
  cases f with
  | next=>
   obtain ⟨σ8,H8,J8,q8⟩:=q
   exact iD (X:=X.suite (X.pn++pins) a) J8 hN hi hx fun s9 J9=>⟨_,H8,J9.unsuite I.ok,q8⟩
  | brk=>
   obtain ⟨σ8,H8,J8,q8⟩:=q
   exact iD (X:=X.suite (X.pn++pins) a) J8 hN hi hx fun s9 J9=>⟨_,H8,J9.unsuite I.ok,q8⟩
  | cont=>
   obtain ⟨σ8,H8,J8,q8⟩:=q
   exact iD (X:=X.suite (X.pn++pins) a) J8 hN hi hx fun s9 J9=>⟨_,H8,J9.unsuite I.ok,q8⟩
  | ret u=>
   obtain ⟨v,σ8,H8,J8,r8,q8⟩:=q
   exact iD (X:=X.suite (X.pn++pins) a) J8 hN hi hx fun s9 J9=>⟨v,_,H8,J9.unsuite I.ok,r8,q8⟩
end
end L2
namespace L2
open PySem PySem.Spec PyProof.Rows
section
variable {X:Cx}{st:Stmt}{t:TS}{x:Str}{np pos hpos cpos p:Pos}{C C0:Addr}{E:XK}{m:Str}{j:Nat}{K:PySem.W.Frag}
theorem PS.nox (h:PS X.nox st t):PS X st t:=fun pins s σ H D I hw=>
 wpAny_mono (h pins s σ H D (I.wish _) hw) (fun _ _ q=>q.unwish) fun _ _ z=>False.elim z
theorem uP (hK:X.K=K)(T:uI X E)(hc:X.calm=true)(hg:Gl X x)(hm:X.mg x=some (.ref C))(q:PySem.W.excIn K C aBF "ValueError.__new__" = true)(hdb:(x == ("__debug__" : Str))=false:=by decide) :
  PS X (.Raise (some (.Call (.Name x np) [.Constant (.str m) j p] [] cpos)) none pos) (uK C E):=yC T hc hg hm (by rw [hK];exact q) hdb
theorem aAc {n:Str}{ie ln:Nat}{tb:XK→TS}{th:TS}{body suite:List Stmt}{b₀:Stmt}(hK:X.K=K)(hst:X.stack=X.env :: X.outer)(hfr:X.env.frame=some X.env.locals)(hln:X.N.length=ln)(hN:X.N.Nodup)(hi:X.N[ie]?=some n)(hx:X.env.scope.names.lookup n=some .local)
  (hg:Gl X x) (hm:X.mg x=some (.ref C0)) (hb:∀ pn W E,iR (mW X.prog X.w) (X.tried pn W) E→PSs (X.tried pn W) body (tb E)) (hs:∀ pn a,PSs (X.suite pn a) (b₀ :: suite) th) (hdb:(x == ("__debug__" : Str))=false:=by decide) :
  PS X (.Try body [.ExceptHandler (some (.Name x np)) (some n) (b₀ :: suite) hpos] [] [] pos) (aCv K C0 ie ln tb th):=by subst hK;exact aBt hst hfr hln hN hi hx hg hm hb hs hdb
end
structure DefX (P:Program)(w:World)(K:PySem.W.Frag)(mg:Str→Option Value)(base:Heap)(x:Str)(k:Nat)(ps:List Str)(sp:Sp):Prop where
 ex:∃ (f:Addr) (fd:FuncData),FnOk P w K mg base (mW P w) k f fd ps sp∧mg x=some (.ref f)∧PySem.W.keepIn K (.ref f)=true∧Binds K fd ps []
theorem DefX.mono {P:Program}{w:World}{K:PySem.W.Frag}{mg:Str→Option Value}{base:Heap}{x:Str}{j k:Nat}{ps:List Str}{sp:Sp}(D:DefX P w K mg base x j ps sp)(h:j≤k):DefX P w K mg base x k ps sp:=by
 obtain ⟨f,fd,F,r⟩:=D.ex
 exact ⟨f,fd,F.mono h,r⟩
theorem qX {X:Cx}{x:Str}{k:Nat}{ps:List Str}{sp:Sp}{p pos:Pos}{e:Expr}{es:List Expr}{t:TA}{E:XK}(D:DefX X.prog X.w X.K X.mg X.base x k ps sp)(hr:Room k X.A)(hg:Gl X x)(hx:iR (mW X.prog X.w) X E)(ha:PA X (e :: es) t)
  (hdb:(x == ("__debug__" : Str))=false:=by decide) (he:starEach (e :: es) X.env=(false,eval e X.env) :: starEach es X.env:=by rfl) (hpl:(backTo pos (starEach es X.env)).any (·.1)=false:=by rfl) :
  PE X (.Call (.Name x p) (e :: es) [] pos) (cA sp [] E t):=by
 obtain ⟨f,fd,F,hm,hk,hb⟩:=D.ex
 exact tX F hr hg hm hk hb .nil hx ha hdb he hpl
section
variable {P:Program}{w:World}{K:PySem.W.Frag}{mg:Str→Option Value}{base:Heap}
theorem Fun.okX {x qual:Str}{st:Stmt}{f:Addr}{fd:FuncData}{N ps:List Str}{k:Nat}{sp:Sp}(F:Fun K x qual st f fd)(S:bP N ps (aK st))(len:∀ vs H Q E,sp vs H Q E→vs.length=ps.length)
  (hbody:∀ (cdv:Value) (A:Around) (outer:List Env) (s:Shared) (H:Hp) (vs:List V) (Q:VK) (E:XK),Room k (A.deeper (envOfC qual (aK st) s.heap.objs.size f cdv))→sp vs H Q E →
   ∃ t,PSs (rN (mW P w) P w K mg base N qual (aK st) f cdv A outer s H E) (bK st) t∧t { nx:=fun _ H'=>Q .non H',rt:=Q } (bQ N vs) H):FnOk P w K mg base (mW P w) (k+1) f fd ps sp:=by
 obtain ⟨oc,od,kV,doc,pm,an,cdv,ct,osl,rfl,lk,hcd⟩:=F.ex
 exact aAY lk hcd S len fun A outer s H vs Q E hr hsp=>hbody cdv A outer s H vs Q E hr hsp
end
theorem oB:bootBuiltins ("ValueError" : Str)=some (.type "ValueError"):=PyProof.Rows.Boot.«ValueError»
end L2
namespace L2
open PySem
section
variable {X:Cx}
noncomputable def aCe:V→List V→Hp→VK→Prop:=fun x vs H Q=>∃ (l:Addr) (xs:List V) (y:V) (j:Nat),x = .ref l∧vs=[y]∧H l=some (.lst xs)∧lU y=true∧xs.all lU=true∧(∃ z,xs[j]?=some z∧eqV z y=true)∧(∀ m z,m<j→xs[m]?=some z→eqV z y=false)∧Q (.int (j:Int)) H
theorem aAB:MtM X "list.index" aCe:=by
 intro pins s σ H x vs v us Q I rx rv h
 obtain ⟨l,xs,y,j,rfl,rfl,hH,fy,fs,⟨z,hz,hzy⟩,hno,q⟩:=h
 cases rx
 obtain ⟨u,rfl,ru⟩:=rv.one
 obtain ⟨zz,its,n,r,hl,e⟩:=I.lstM hH
 have hjx:j<xs.length:=(List.getElem?_eq_some_iff.mp hz).1
 have hji:j<its.length:=by omega
 have at':∀ m (hm:m<its.length),∃ w,xs[m]?=some w∧eqU y its[m]=eqV w y:=fun m hm=>by
  have e1:xs[m]?=some xs[m]:=List.getElem?_eq_getElem (by omega)
  obtain ⟨u',hu',ru'⟩:=r.get e1
  rw [List.getElem?_eq_getElem hm] at hu'
  cases hu'
  exact ⟨xs[m],e1,uQ ru' (List.all_eq_true.mp fs _ (List.getElem_mem _))⟩
 refine call_meets F.slot_list_index ⟨_,e,rfl⟩ F.entry_list_index (F.args_list_index_2 _ _)
  (SeqAt.list_indexAt l its.toArray n none #[] u (eqU y) j (by rw [List.size_toArray];exact hji) (Int.lt_of_lt_of_le (Int.ofNat_lt.mpr (Nat.lt_of_lt_of_le hjx zz)) (by decide)) ?_ ?_) ⟨e,fun w hw=>nR ru fy r fs w (by simpa using hw),?_⟩
 ·obtain ⟨w,e1,e2⟩:=at' j hji
  rw [hz] at e1
  cases e1
  show eqU y its[j]=true
  rw [e2];exact hzy
 ·intro m hm hmj
  obtain ⟨w,e1,e2⟩:=at' m (by rw [List.size_toArray] at hm;exact hm)
  show eqU y its[m]=false
  rw [e2];exact hno m w hmj e1
 ·exact ⟨.int (j:Int),H,I.tok _,⟨_,rfl⟩,q⟩
end
end L2
namespace L2
open PySem
theorem vX {X:Cx}:iR (mW X.prog X.w) X E0:=fun _ _ _ _ _ _ _ ⟨_,_,_,_,_,_,_,_,_,_,_,_,h⟩=>h.elim
end L2
namespace L2
open PySem
section
variable {P:Program}{w:World}
noncomputable def IsPairKey (P:Program) (w:World) (h:Heap) (k:List Int × Int) (a:Addr):Prop:=∃ o n b t,h.get? a=some o∧o.cls = .type "tuple"∧o.data = .seq #[.ref b, .int k.2 t] n∧IsTupleKey (intKind P w) h k.1 b
theorem IsPairKey.typeIs {s:Shared}{k:List Int × Int}{a:Addr}(x:IsPairKey P w s.heap k a):s.TypeIs (.ref a) "tuple":=let ⟨o,_,_,_,ho,hc,_⟩:=x;⟨o,ho,hc⟩
theorem IsPairKey.inj {h:Heap}{a:Addr}{x y:List Int × Int}(hx:IsPairKey P w h x a)(hy:IsPairKey P w h y a):x=y:=by
 obtain ⟨o,n,b,t,ho,_,hd,hi⟩:=hx
 obtain ⟨o',n',b',t',ho',_,hd',hi'⟩:=hy
 obtain rfl:o=o':=Option.some.inj (ho.symm.trans ho')
 rw [hd] at hd'
 injection hd' with h1 _
 have h2:[Value.ref b, .int x.2 t]=[.ref b', .int y.2 t']:=congrArg Array.toList h1
 injection h2 with h3 h4
 injection h4 with h5 _
 injection h3 with h3
 injection h5 with h5 _
 subst h3
 exact Prod.ext (hi.inj hi') h5
theorem IsPairKey.keeps {h h':Heap}{k:List Int × Int}{a d:Addr}{o:Obj}{es ep}(x:IsPairKey P w h k a)(ho:h.get? d=some o)(hd:o.data = .dict es ep)(hs:Heap.SameBut d h h'):IsPairKey P w h' k a:=by
 obtain ⟨o',n,b,t,ho',hc,hd',hi⟩:=x
 have hne:a≠d:=by
  rintro rfl
  obtain rfl:o'=o:=Option.some.inj (ho'.symm.trans ho)
  rw [hd] at hd';exact nomatch hd'
 exact ⟨o',n,b,t,(hs.2 a hne).trans ho',hc,hd',hi.keeps ho hd hs⟩
noncomputable def oF (P:Program) (w:World) (k:List Int × Int):Int:=reduceHash (Builtin.Tuple.tupleHashOf [tupleKeyHash (intKind P w) k.1,(intKind P w).hash k.2])
variable {A:Around}{E:Value→Shared→Prop}{s:Shared}
theorem qQ {k:List Int × Int}{a:Addr}{Q:Int→Shared→Prop}(hu:A.units+5<cLine)(hk:IsPairKey P w s.heap k a)(h:Q (oF P w k) { s with toks:=s.toks+(k.1.length+3) }) :
  wpAny (model P w) A (pyHash (.ref a)) Q E s:=by
 have hT:=hk.typeIs
 obtain ⟨o,n,b,t,ho,_,hd,hi⟩:=hk
 unfold pyHash
 first | unfold pyHashByItsType | skip
 first | refine wpAny_bind (wpAny_cRoomFor_or (.inr (by omega)) ?_) | skip
 refine wpAny_bind (wpAny_specialOf hT F.slot_tuple_hash.lookup ?_)
 show wpAny _ _ (if (some (Value.builtin "tuple.__hash__") == some Value.none)=true then _ else _) Q E s
 rw [if_neg (by rw [beq_builtin_none];exact Bool.false_ne_true)]
 refine wpAny_bind (wpAny_specialOf hT F.slot_tuple_hash.lookup ?_)
 show wpAny _ _ (callSpecialIfBoundUnlessNone? (.ref a) "__hash__" _ >>= _) Q E s
 refine wpAny_bind (wpAny_callSpecialIfBoundUnlessNone?_slot hT F.slot_tuple_hash (wpAny_call_entry F.slot_tuple_hash hT F.entry_tuple_hash ?_ (F.args_tuple_hash_1 _)))
 show wpAny _ _ (Builtin.Tuple.tupleItemsOf (.ref a) >>= _) _ _ s
 refine wpAny_bind (wpAny_tupleItemsOf ho hd ?_)
 refine wpAny_bind ?_
 rw [← Array.forIn_toList]
 show wpAny _ _ (forIn [Value.ref b,Value.int k.2 t] #[] _) _ _ s
 rw [List.forIn_cons]
 refine wpAny_bind (wpAny_bind (wpAny_pyHash_tuple (knd:=intKind P w) (show A.units+1<cLine by omega) hi (wpAny_pure ?_)))
 show wpAny _ _ (forIn [Value.int k.2 t] #[tupleKeyHash (intKind P w) k.1] _) _ _ _
 rw [List.forIn_cons]
 refine wpAny_bind (wpAny_bind ((intKind P w).pyHash (k:=k.2) (v := .int k.2 t) (by show Value.isInt k.2 (.int k.2 t)=true;unfold Value.isInt;exact beq_self_eq_true _) (wpAny_pure ?_)))
 show wpAny _ _ (forIn [] #[tupleKeyHash (intKind P w) k.1,(intKind P w).hash k.2] _) _ _ _
 rw [List.forIn_nil]
 refine wpAny_pure ?_
 show wpAny _ _ (retInt (Builtin.Tuple.tupleHashOf [tupleKeyHash (intKind P w) k.1,(intKind P w).hash k.2])) _ _ _
 refine wpAny_ret_mkInt ?_
 show wpAny _ _ (if (decide (-(2:Int) ^ 63≤Builtin.Tuple.tupleHashOf [tupleKeyHash (intKind P w) k.1,(intKind P w).hash k.2]) && decide (Builtin.Tuple.tupleHashOf [tupleKeyHash (intKind P w) k.1,(intKind P w).hash k.2]<2 ^ 63))=true then _ else _) Q E _
 unfold oF reduceHash at h
 by_cases hr:(decide (-(2:Int) ^ 63≤Builtin.Tuple.tupleHashOf [tupleKeyHash (intKind P w) k.1,(intKind P w).hash k.2]) && decide (Builtin.Tuple.tupleHashOf [tupleKeyHash (intKind P w) k.1,(intKind P w).hash k.2]<2 ^ 63))=true
 ·rw [if_pos hr]
  rw [if_pos hr] at h
  exact wpAny_pure (by simpa [Nat.add_assoc] using h)
 ·rw [if_neg hr]
  rw [if_neg hr] at h
  exact wpAny_bind (wpAny_rule (wpAny_pure (by simpa [Nat.add_assoc] using h)))
theorem oN {x y:List Int × Int}{a b:Addr}{Pd:Fin→Shared→Prop}(hu:A.units<cLine)(hx:IsPairKey P w s.heap x a)(hy:IsPairKey P w s.heap y b)(h:Pd (.done (.ret (.bool (decide (x=y))))) s) :
  wpAny (model P w) A (Builtin.«tuple.__eq__» ⟨[.ref a, .ref b],[]⟩) Pd E s:=by
 have hTb:=hy.typeIs
 obtain ⟨oa,na,ia,ta,hoa,_,hda,hia⟩:=hx
 obtain ⟨ob,nb,ib,tb,hob,_,hdb,hib⟩:=hy
 show wpAny _ _ (isInstance (.ref b) (.type "tuple") >>= _) _ _ s
 refine wpAny_bind (wpAny_isInstance hTb isSubtype_tuple_tuple ?_)
 simp only [Bool.not_true,Bool.false_eq_true,if_false]
 refine wpAny_bind (wpAny_tupleItemsOf hoa hda ?_)
 refine wpAny_bind (wpAny_tupleItemsOf hob hdb ?_)
 refine wpAny_bind ?_
 show wpAny _ _ (forIn [(Value.ref ia,Value.ref ib),(Value.int x.2 ta,Value.int y.2 tb)] _ _) _ _ s
 rw [List.forIn_cons]
 refine wpAny_bind (wpAny_bind (wpAny_eqBool_tuple (knd:=intKind P w) hu hia hib ?_))
 by_cases h1:x.1=y.1
 ·rw [decide_eq_true h1]
  simp only [Bool.not_true,Bool.false_eq_true,if_false]
  refine wpAny_pure ?_
  show wpAny _ _ (forIn [(Value.int x.2 ta,Value.int y.2 tb)] _ _) _ _ s
  rw [List.forIn_cons]
  refine wpAny_bind (wpAny_bind (wpAny_eqBool_int ?_))
  by_cases h2:x.2=y.2
  ·rw [show (x.2 == y.2)=true by rw [h2];exact beq_self_eq_true _]
   simp only [Bool.not_true,Bool.false_eq_true,if_false]
   refine wpAny_pure ?_
   show wpAny _ _ (forIn [] _ _) _ _ s
   rw [List.forIn_nil]
   refine wpAny_pure (wpAny_pure ?_)
   have e:decide (x=y)=true:=decide_eq_true (Prod.ext h1 h2)
   rw [e] at h
   exact h
  ·rw [show (x.2 == y.2)=false by exact beq_false_of_ne h2]
   simp only [Bool.not_false,if_true]
   have e:decide (x=y)=false:=decide_eq_false fun z=>h2 (congrArg Prod.snd z)
   rw [e] at h
   exact wpAny_bind (wpAny_pure (wpAny_pure (wpAny_pure (wpAny_pure h))))
 ·rw [decide_eq_false h1]
  simp only [Bool.not_false,if_true]
  have e:decide (x=y)=false:=decide_eq_false fun z=>h1 (congrArg Prod.fst z)
  rw [e] at h
  exact wpAny_bind (wpAny_pure (wpAny_pure (wpAny_pure (wpAny_pure h))))
theorem qZ {x y:List Int × Int}{a b:Addr}{Q:Bool→Shared→Prop}(hu:A.units+5<cLine)(hx:IsPairKey P w s.heap x a)(hy:IsPairKey P w s.heap y b)(h:Q (decide (x=y)) s) :
  wpAny (model P w) A (eqBool (.ref a) (.ref b)) Q E s:=by
 unfold eqBool
 try with_reducible refine wpAny_holding ?_
 show wpAny _ _ (if (Value.ref a == Value.ref b)=true then _ else _) Q E s
 by_cases hab:(Value.ref a == Value.ref b)=true
 ·rw [if_pos hab]
  have e:a=b:=by have:=eq_of_beq hab;injection this
  subst e
  obtain rfl:=hx.inj hy
  exact wpAny_bind (wpAny_rule (wpAny_pure (by simpa using h)))
 ·rw [if_neg hab]
  exact wpAny_bind (wpAny_richCompare_same_room (op := .Eq) hx.typeIs hy.typeIs F.slot_tuple_eq
   (wpAny_call_entry F.slot_tuple_eq hx.typeIs F.entry_tuple_eq (oN (show A.units+1<cLine by omega) hx hy ⟨_,rfl,(fun e=>nomatch e),wpAny_truthy_bool h⟩) (F.args_tuple_eq_2 _ _)) (by omega))
theorem xG {ks:List Int}{a:Addr}{m:Nat}{Q:Bool→Shared→Prop}(hk:IsTupleKey (intKind P w) s.heap ks a)(h:Q true s):wpAny (model P w) A (eqIsQuiet (m+1) (.ref a)) Q E s:=by
 have hT:=hk.typeIs
 obtain ⟨o,items,n,ho,_,hd,hi⟩:=hk
 unfold eqIsQuiet
 refine wpAny_bind (wpAny_specialOf hT F.slot_tuple_eq.lookup ?_)
 show wpAny _ _ (isInstance (.ref a) (.type "tuple") >>= _) _ _ s
 refine wpAny_bind (wpAny_isInstance hT isSubtype_tuple_tuple ?_)
 simp only [Bool.not_true,Bool.false_eq_true,if_false]
 refine wpAny_bind (wpAny_seqItems ho hd ?_)
 refine wpAny_bind ?_
 show wpAny _ _ (forIn items _ _) _ _ s
 rw [← Array.forIn_toList]
 refine wpAny_forIn_list _ (fun rest r s'=>r.1=none∧s'=s∧∀ v∈rest,carriedByValue v=true) _ ?_ ?_ _ _ ⟨rfl,rfl,hi.byValue⟩
 ·rintro v rest r s' ⟨hr,rfl,hall⟩
  rw [eqIsQuiet_byValue _ (hall v List.mem_cons_self)]
  refine wpAny_bind (wpAny_pure ?_)
  simp only [Bool.not_true,Bool.false_eq_true,if_false]
  exact wpAny_pure ⟨rfl,rfl,fun u hu'=>hall u (List.mem_cons_of_mem _ hu')⟩
 ·rintro ⟨r1,r2⟩ s' ⟨hr,rfl,_⟩
  simp only at hr
  subst hr
  exact wpAny_pure h
theorem sL {k:List Int × Int}{a:Addr}{Q:Bool→Shared→Prop}(hk:IsPairKey P w s.heap k a)(h:Q true s):wpAny (model P w) A (eqIsQuiet 8 (.ref a)) Q E s:=by
 have hT:=hk.typeIs
 obtain ⟨o,n,b,t,ho,_,hd,hi⟩:=hk
 unfold eqIsQuiet
 refine wpAny_bind (wpAny_specialOf hT F.slot_tuple_eq.lookup ?_)
 show wpAny _ _ (isInstance (.ref a) (.type "tuple") >>= _) _ _ s
 refine wpAny_bind (wpAny_isInstance hT isSubtype_tuple_tuple ?_)
 simp only [Bool.not_true,Bool.false_eq_true,if_false]
 refine wpAny_bind (wpAny_seqItems ho hd ?_)
 refine wpAny_bind ?_
 show wpAny _ _ (forIn #[Value.ref b,Value.int k.2 t] _ _) _ _ s
 rw [← Array.forIn_toList]
 show wpAny _ _ (forIn [Value.ref b,Value.int k.2 t] _ _) _ _ s
 rw [List.forIn_cons]
 refine wpAny_bind (wpAny_bind (xG hi ?_))
 simp only [Bool.not_true,Bool.false_eq_true,if_false]
 refine wpAny_pure ?_
 show wpAny _ _ (forIn [Value.int k.2 t] _ _) _ _ s
 rw [List.forIn_cons,eqIsQuiet_byValue _ (v:=Value.int k.2 t) rfl]
 refine wpAny_bind (wpAny_bind (wpAny_pure ?_))
 simp only [Bool.not_true,Bool.false_eq_true,if_false]
 refine wpAny_pure ?_
 show wpAny _ _ (forIn [] _ _) _ _ s
 rw [List.forIn_nil]
 exact wpAny_pure (wpAny_pure h)
noncomputable def nT (P:Program) (w:World):HeapKind P w (List Int × Int) where
 is:=IsPairKey P w
 hash:=oF P w
 draws:=fun k=>k.1.length+3
 room:=fun A=>A.units+5<cLine
 inj:=fun hx hy=>hx.inj hy
 keeps:=fun x ho hd hs=>x.keeps ho hd hs
 pyHash:=fun hu hk h=>qQ hu hk h
 eqBool:=fun hu hx hy h=>qZ hu hx hy h
 quiet:=fun hk h=>sL hk h
end
end L2
namespace L2
open PySem
noncomputable abbrev PKy:=List Int × Int
noncomputable abbrev PEs:=List (PKy × Addr × V)
noncomputable def aCH (k:PKy):Int:=reduceHash (Builtin.Tuple.tupleHashOf [reduceHash (Builtin.Tuple.tupleHashOf (k.1.map hashInt)),hashInt k.2])
noncomputable abbrev aCD (p:PKy × Addr × V) (q:PKy × Addr × Value):Prop:=p.1=q.1∧p.2.1=q.2.1∧RelV p.2.2 q.2.2
noncomputable def dpP (a:Addr) (xs:PEs) (ep:Nat) (h:Heap):Prop:=xs.length≤sizeLine∧(a == sysModules)=false∧∃ ys:List (PKy × Addr × Value),Paired aCD xs ys ∧
 ∃ o es,h.get? a=some o∧o.ExactDict∧o.data = .dict es ep∧es.toList=ys.map (fun y=>(⟨aCH y.1, .ref y.2.1,y.2.2⟩:DictEntry))∧(ys.map (·.1)).Nodup
noncomputable def dpO (a:Addr) (xs:PEs) (ep:Nat):HO := .ext (dpP a xs ep)
noncomputable def KeyP (H:Hp) (k:PKy) (c:Addr):Prop:=∃ b,H c=some (.tup [.ref b, .int k.2])∧H b=some (.tup (k.1.map V.int))
noncomputable def DP (H:Hp) (a:Addr) (xs:PEs) (ep:Nat):Prop:=H a=some (dpO a xs ep)∧∀ x∈xs,KeyP H x.1 x.2.1
section
variable {P:Program}{w:World}{H:Hp}{h:Heap}{a c:Addr}{k:PKy}{xs:PEs}
theorem mS:∀ {ns:List Int} {its:List Value},Vals (ns.map V.int) its→ItemsAre (intKind P w) ns its
 | [],_, .nil => .nil
 | n :: ns,_, .cons r t=>by
  obtain ⟨tk,rfl⟩:=r
  exact .cons (by show Value.isInt n (.int n tk)=true;unfold Value.isInt;exact beq_self_eq_true _) (mS t)
theorem KeyP.is (ok:HOk P w H h)(e:KeyP H k c):(nT P w).is h k c:=by
 obtain ⟨b,e1,e2⟩:=e
 obtain ⟨_,its,r,o,h1,h2,⟨n,h3⟩,_⟩:=(show ObjOk P w H h c (.tup [.ref b, .int k.2]) from ok c _ e1)
 obtain ⟨_,its',r',o',h1',h2',⟨n',h3'⟩,_⟩:=(show ObjOk P w H h b (.tup (k.1.map V.int)) from ok b _ e2)
 obtain ⟨u,v,rfl,ru,rv⟩:=r.two
 obtain rfl:u=Value.ref b:=ru
 obtain ⟨t,rfl⟩:=rv
 exact ⟨o,n,b,t,h1,h2,h3,o',its'.toArray,n',h1',h2',h3',by simpa using mS r'⟩
theorem DP.of {ep:Nat}(ok:HOk P w H h)(e:DP H a xs ep):xs.length≤sizeLine∧(a == sysModules)=false∧∃ ys,Paired aCD xs ys∧h.DictOfH (nT P w) a ys:=by
 obtain ⟨z,y,ys,r,o,es,h1,h2,h3,h4,h5⟩:=(show dpP a xs ep h from (ok a _ e.1).1)
 refine ⟨z,y,ys,r,o,es,ep,h1,h2,h3,h4,?_,h5⟩
 have all:∀ {l:PEs} {m:List (PKy × Addr × Value)},Paired aCD l m→(∀ x∈l,KeyP H x.1 x.2.1)→∀ x∈m,(nT P w).is h x.1 x.2.1:=by
  intro l m q
  induction q with
  | nil=>intro _ x hx;exact nomatch hx
  | @cons p q ps qs hq t ih=>
   intro hk x hx
   rcases List.mem_cons.mp hx with e | hx
   ·subst e
    have:=hk p (List.mem_cons_self ..)
    rw [hq.1,hq.2.1] at this
    exact this.is ok
   ·exact ih (fun x hx=>hk x (List.mem_cons_of_mem _ hx)) x hx
 exact all r e.2
end
noncomputable def aDh (K:PySem.W.Frag) (H:Hp) (k:PKy) (c:Addr):Prop:=∃ b,SqT K H c [.ref b, .int k.2]∧SqT K H b (k.1.map V.int)
theorem KeyP.q {K:PySem.W.Frag}{H:Hp}{k:PKy}{c:Addr}(e:KeyP H k c):aDh K H k c:=let ⟨b,h1,h2⟩:=e;⟨b, .of h1, .of h2⟩
section
variable {X:Cx}{o i value:Expr}{pos pos':Pos}{td ty tv:TE}
end
end L2
namespace L2
open PySem PySem.Spec PyProof.Rows
section
variable {prog:Program}{w:World}{A:Around}{E:Value→Shared→Prop}{s:Shared}{d:Addr}{o:Obj}{es:Array DictEntry}{ep:Nat}
end
end L2
namespace L2
open PySem PySem.Spec PyProof.Rows
end L2
namespace L2
open PySem
theorem zD {H H':Hp}{p:Addr}{o:HO}(h:H p=none)(s:Same H H'):Same H (upd H' p o):=fun b u e=>by rw [aP (aQ e h)];exact s _ _ e
section
variable {K:PySem.W.Frag}
theorem aAI {H:Hp}{a:Addr}{rs:List V}{T:List (List Int)}(h:SqT K H a rs)(r:Rows K H rs T):Sh K H (jY T) (.ref a):=⟨a,rs,rfl,h,ShL.of_rows r.1 r.2⟩
theorem Sh.rowsT {H:Hp}{v:V}{T:List (List Int)}(h:Sh K H (jY T) v):∃ a rs,v = .ref a∧SqT K H a rs∧Rows K H rs T:=by
 obtain ⟨a,rs,e,ha,hl,hr⟩:=h.tab
 exact ⟨a,rs,e,ha,hl,hr⟩
theorem uD {σ:St}{H:Hp}{ta ti tv tb tj:TE}{p:Addr}{xs:List V}{i:Nat}{v:V}{Q:VK}(hp:SqT K H p xs)(hi:i<xs.length)(hz:xs.length≤1000)
  (hta:∀ H',Same H H'→∀ R:VK,R (.ref p) H'→ta σ H' R) (hti:∀ H' (R:VK),R (.int (i:Int)) H'→ti σ H' R) (htv:∀ H' (R:VK),R v H'→tv σ H' R) (htb:∀ H',Same H H'→∀ R:VK,R (.ref p) H'→tb σ H' R) (htj:∀ H' (R:VK),R (.int (i:Int)) H'→tj σ H' R)
  (q:∀ r H',Same H H'→SqT K H' r (xs.set i v)→Q (.ref r) H') :
  tOp (bJ K) (tOp (bJ K) (tSl (mH K) ta cI (dF ti)) (qF (aC tv aS))) (tSl (mH K) tb (dF (tOp (bJ K) tj (tC (.int 1)))) cI) σ H Q:=by
 have hl:∀ {k:Nat},k≤1000→k≤sizeLine:=fun h=>Nat.le_trans h (by decide)
 refine hta H (Same.refl _) _ (hti _ _ ⟨_,rfl, .inr ⟨p,xs,rfl,hp,fun p1 H1 s1 h1=>?_⟩⟩)
 rw [aBs (by omega)] at h1
 refine htv _ _ ⟨by show 1≤sizeLine;decide,fun p2 hp2=>?_⟩
 refine .inr ⟨p1,p2,_,_,rfl,rfl,((aJ hp2 _).tup h1), .of aF,?_,fun p3 H3 _ hq3 s3=>?_⟩
 ·rw [List.length_take,List.length_singleton];exact hl (by omega)
 have s13:=s1.trans ((aJ hp2 (.tup [v])).trans s3)
 refine htb H3 s13 _ (htj _ _ ⟨_,rfl, .inr ⟨p,xs,rfl,s13.tup hp,fun p4 H4 s4 h4=>?_⟩⟩)
 have e1:(i:Int)+1=((i+1:Nat):Int):=by omega
 rw [e1,xZ (by omega)] at h4
 refine .inr ⟨p3,p4,_,_,rfl,rfl,s4.tup hq3,h4,?_,fun p5 H5 _ hq5 s5=>q p5 H5 (s13.trans (s4.trans s5)) ?_⟩
 ·rw [List.length_append,List.length_take,List.length_singleton,List.length_drop];exact hl (by omega)
 ·rw [List.set_eq_take_append_cons_drop,if_pos hi]
  rw [List.append_assoc] at hq5
  exact hq5
end
end L2
namespace L2
open PySem
open PySem.SeqAt
section
variable {X:Cx}
end
end L2
namespace L2
open PySem PySem.W PyProof.Rows
section
variable (r:Nat→Int)
noncomputable def rlt (i j:Nat):Bool:=decide (r i<r j)
noncomputable def aW {α:Type}:KasT α→α
 | .ret a=>a
 | .ask i j k=>aW (k (rlt r i j))
theorem cY {α β:Type}{f:α→KasT β}:∀ t:KasT α,aW r (t.bind f)=aW r (f (aW r t))
 | .ret _=>rfl
 | .ask i j k=>by
  show aW r ((k (rlt r i j)).bind f)=_
  exact cY (k (rlt r i j))
noncomputable def Kr (p:Array Nat) (i:Nat):Int:=r (p.getD i 0)
noncomputable def Srt (p:Array Nat) (n:Nat):Prop:=∀ i j,i≤j→j<n→Kr r p i≤Kr r p j
noncomputable def Dsc (p:Array Nat) (n:Nat):Prop:=∀ i j,i≤j→j<n→Kr r p j≤Kr r p i
variable {r}
theorem iP {p q:Array Nat}{i j:Nat}(h:p[i]?=q[j]?):Kr r p i=Kr r q j:=by
 unfold Kr
 rw [Array.getD_eq_getD_getElem?,Array.getD_eq_getD_getElem?,h]
theorem uE {p:Array Nat}{a b:Nat}(h:Kr r p a<Kr r p b):rlt r (p.getD a 0) (p.getD b 0)=true:=decide_eq_true h
theorem wF {p:Array Nat}{a b:Nat}(h:¬ Kr r p a<Kr r p b):¬ rlt r (p.getD a 0) (p.getD b 0)=true:=fun e=>h (of_decide_eq_true e)
theorem aAo {p:Array Nat}{i j:Nat}(hj:j≤p.size)(k:Nat):Kr r (kas_rev p i j) k=if i≤k∧k<j then Kr r p (i+j - 1 - k) else Kr r p k:=by
 have:=getElem?_mirror_all (i:=i) hj k
 by_cases c:i≤k∧k<j
 ·rw [if_pos c] at this ⊢;exact iP this
 ·rw [if_neg c] at this ⊢;exact iP this
theorem aCB {p:Array Nat}{src d:Nat}(hs:src<p.size)(hd:d≤src)(k:Nat):Kr r (bubble p src d) k=if k=src - d then Kr r p src else if src - d<k∧k≤src then Kr r p (k - 1) else Kr r p k:=by
 have:=getElem?_bubble hs d hd k
 by_cases c:k=src - d
 ·rw [if_pos c] at this ⊢;exact iP this
 ·rw [if_neg c] at this ⊢
  by_cases e:src - d<k∧k≤src
  ·rw [if_pos e] at this ⊢;exact iP this
  ·rw [if_neg e] at this ⊢;exact iP this
theorem dJ (p:Array Nat)(i j:Nat):(kas_rev p i j).Perm p:=mirror_perm _ _ _ _
theorem rC {p:Array Nat}:∀ f n,1≤n→Srt r p n→n≤aW r (kas_asc p f n)∧aW r (kas_asc p f n)≤n+f∧Srt r p (aW r (kas_asc p f n))∧(aW r (kas_asc p f n)<n+f→Kr r p (aW r (kas_asc p f n))<Kr r p (aW r (kas_asc p f n) - 1))
 | 0,n,h1,hs=>⟨Nat.le_refl _,Nat.le_refl _,hs,fun h=>absurd h (Nat.lt_irrefl _)⟩
 | f+1,n,h1,hs=>by
  have e:aW r (kas_asc p (f+1) n)=aW r (if rlt r (p.getD n 0) (p.getD (n - 1) 0)=true then .ret n else kas_asc p f (n+1)):=rfl
  rw [e]
  by_cases c:Kr r p n<Kr r p (n - 1)
  ·rw [if_pos (uE c)]
   exact ⟨Nat.le_refl _,Nat.le_add_right _ _,hs,fun _=>c⟩
  ·rw [if_neg (wF c)]
   obtain ⟨a1,a2,a3,a4⟩:=rC (p:=p) f (n+1) (by omega) fun i j hij hj=>by
    by_cases e1:j=n
    ·subst e1
     by_cases e2:i=j
     ·subst e2;omega
     ·have:=hs i (j - 1) (by omega) (by omega);omega
    ·exact hs i j hij (by omega)
   exact ⟨by omega,by omega,a3,fun h=>a4 (by omega)⟩
theorem nQ {p:Array Nat}{i j:Nat}(hj:j≤p.size)(h:∀ k,i≤k→k<j→Kr r p k=Kr r p (j - 1))(k:Nat):Kr r (kas_rev p i j) k=Kr r p k:=by
 rw [aAo hj]
 split
 ·next c=>rw [h _ (by omega) (by omega),h k c.1 c.2]
 ·rfl
theorem kE:∀ f (p:Array Nat) n q,1≤n→n+f≤p.size→q<n→Dsc r p n→(∀ i,n - (q+1)≤i→i<n→Kr r p i=Kr r p (n - 1))→∀ R,R=aW r (kas_desc f p n q) →
  R.1.size=p.size∧R.1.Perm p∧n≤R.2.1∧R.2.1≤n+f∧R.2.2<R.2.1∧Dsc r R.1 R.2.1∧∀ i,R.2.1 - (R.2.2+1)≤i→i<R.2.1→Kr r R.1 i=Kr r R.1 (R.2.1 - 1)
 | 0,p,n,q,h1,hz,hq,hd,he,R,hR=>by subst hR;exact ⟨rfl,Array.Perm.refl _,Nat.le_refl _,Nat.le_refl _,hq,hd,he⟩
 | f+1,p,n,q,h1,hz,hq,hd,he,R,hR=>by
  have e:aW r (kas_desc (f+1) p n q)=aW r (if rlt r (p.getD n 0) (p.getD (n - 1) 0)=true then (if q > 0 then kas_desc f (kas_rev p (n - (q+1)) n) (n+1) 0 else kas_desc f p (n+1) 0) else .ask (p.getD (n - 1) 0) (p.getD n 0) fun d=>if d=true then .ret (p,n,q) else kas_desc f p (n+1) (q+1)):=rfl
  rw [e] at hR
  by_cases c:Kr r p n<Kr r p (n - 1)
  ·rw [if_pos (uE c)] at hR
   have hd1:Dsc r p (n+1):=fun i j hij hj=>by
    by_cases e1:j=n
    ·subst e1
     by_cases e2:i=j
     ·subst e2;omega
     ·have:=hd i (j - 1) (by omega) (by omega);omega
    ·exact hd i j hij (by omega)
   by_cases c2:q > 0
   ·rw [if_pos c2] at hR
    have kk:=fun k=>nQ (r:=r) (p:=p) (i:=n - (q+1)) (j:=n) (by omega) he k
    have sz:(kas_rev p (n - (q+1)) n).size=p.size:=mirror_size _ _ _ _
    obtain ⟨a1,a2,a3,a4,a5,a6,a7⟩:=kE f (kas_rev p (n - (q+1)) n) (n+1) 0 (by omega) (by rw [sz];omega) (by omega) (fun i j hij hj=>by rw [kk,kk];exact hd1 i j hij hj) (fun i h2 h3=>by rw [show i=n by omega];rfl) R hR
    exact ⟨a1.trans sz,a2.trans (dJ _ _ _),by omega,by omega,a5,a6,a7⟩
   ·rw [if_neg c2] at hR
    obtain ⟨a1,a2,a3,a4,a5,a6,a7⟩:=kE f p (n+1) 0 (by omega) (by omega) (by omega) hd1 (fun i h2 h3=>by rw [show i=n by omega];rfl) R hR
    exact ⟨a1,a2,by omega,by omega,a5,a6,a7⟩
  ·rw [if_neg (wF c)] at hR
   have e2:aW r (KasT.ask (p.getD (n - 1) 0) (p.getD n 0) fun d=>if d=true then .ret (p,n,q) else kas_desc f p (n+1) (q+1))=aW r (if rlt r (p.getD (n - 1) 0) (p.getD n 0)=true then .ret (p,n,q) else kas_desc f p (n+1) (q+1)):=rfl
   rw [e2] at hR
   by_cases d:Kr r p (n - 1)<Kr r p n
   ·rw [if_pos (uE d)] at hR
    subst hR
    exact ⟨rfl,Array.Perm.refl _,Nat.le_refl _,Nat.le_add_right _ _,hq,hd,he⟩
   ·rw [if_neg (wF d)] at hR
    obtain ⟨a1,a2,a3,a4,a5,a6,a7⟩:=kE f p (n+1) (q+1) (by omega) (by omega) (by omega) (fun i j hij hj=>by
     by_cases e1:j=n
     ·subst e1
      by_cases e2:i=j
      ·subst e2;omega
      ·have:=hd i (j - 1) (by omega) (by omega);omega
     ·exact hd i j hij (by omega)) (fun i h2 h3=>by
     show Kr r p i=Kr r p n
     by_cases e1:i=n
     ·rw [e1]
     ·have:=he i (by omega) (by omega);omega) R hR
    exact ⟨a1,a2,by omega,by omega,a5,a6,a7⟩
noncomputable def wU (r:Nat→Int) (nrem n:Nat) (p:Array Nat) (R:Nat × Array Nat):Prop:=R.2.size=p.size∧R.2.Perm p∧n≤R.1∧R.1≤nrem∧Srt r R.2 R.1
theorem oZ {n nrem:Nat}{p:Array Nat}(h1:1≤n)(hn:n≤nrem)(hz:nrem≤p.size)(hd:Dsc r p n):wU r nrem n p (aW r (kas_tail3 n nrem p)):=by
 unfold kas_tail3
 rw [cY]
 have hs:Srt r (kas_rev p 0 n) n:=fun i j hij hj=>by
  rw [aAo (by omega),aAo (by omega),if_pos ⟨by omega,by omega⟩,if_pos ⟨by omega,hj⟩]
  exact hd _ _ (by omega) (by omega)
 obtain ⟨a1,a2,a3,_⟩:=rC (p:=kas_rev p 0 n) (nrem - n) n h1 hs
 exact ⟨mirror_size _ _ _ _,dJ _ _ _,a1,by show aW r _≤_;omega,a3⟩
theorem jN {n nrem:Nat}{p:Array Nat}(hn:n+1≤nrem)(hz:nrem≤p.size)(hd:Dsc r p (n+1)):wU r nrem 1 p (aW r (kas_descPart n nrem p)):=by
 unfold kas_descPart
 rw [cY]
 obtain ⟨a1,a2,a3,a4,a5,a6,a7⟩:=kE (nrem - (n+1)) p (n+1) 0 (by omega) (by omega) (by omega) hd (fun i h2 h3=>by rw [show i=n by omega];rfl) _ rfl
 generalize aW r (kas_desc (nrem - (n+1)) p (n+1) 0)=R at a1 a2 a3 a4 a5 a6 a7 ⊢
 by_cases c:R.2.2 > 0
 ·rw [if_pos c]
  have kk:=fun k=>nQ (r:=r) (p:=R.1) (i:=R.2.1 - (R.2.2+1)) (j:=R.2.1) (by omega) a7 k
  have sz:(kas_rev R.1 (R.2.1 - (R.2.2+1)) R.2.1).size=R.1.size:=mirror_size _ _ _ _
  obtain ⟨b1,b2,b3,b4,b5⟩:=oZ (r:=r) (n:=R.2.1) (nrem:=nrem) (p:=kas_rev R.1 (R.2.1 - (R.2.2+1)) R.2.1) (by omega) (by omega) (by rw [sz];omega) fun i j hij hj=>by rw [kk,kk];exact a6 i j hij hj
  exact ⟨b1.trans (sz.trans a1),b2.trans ((dJ _ _ _).trans a2),by omega,b4,b5⟩
 ·rw [if_neg c]
  obtain ⟨b1,b2,b3,b4,b5⟩:=oZ (r:=r) (n:=R.2.1) (nrem:=nrem) (p:=R.1) (by omega) (by omega) (by omega) a6
  exact ⟨b1.trans a1,b2.trans a2,by omega,b4,b5⟩
theorem vL {nrem:Nat}{p:Array Nat}(h1:1≤nrem)(hz:nrem≤p.size):wU r nrem 1 p (aW r (kas_count nrem p)):=by
 unfold kas_count
 rw [cY]
 obtain ⟨a1,a2,a3,a4⟩:=rC (r:=r) (p:=p) (nrem - 1) 1 (Nat.le_refl _) fun i j hij hj=>by rw [show i=j by omega];omega
 generalize aW r (kas_asc p (nrem - 1) 1)=n at a1 a2 a3 a4 ⊢
 by_cases c:(n == nrem)=true
 ·rw [if_pos c]
  exact ⟨rfl,Array.Perm.refl _,a1,by show n≤nrem;omega,a3⟩
 ·rw [if_neg c]
  have cn:n≠nrem:=fun e=>c (by rw [e];exact beq_self_eq_true _)
  have lt:=a4 (by omega)
  by_cases d:n > 1
  ·rw [if_pos d]
   show wU r nrem 1 p (aW r (if rlt r (p.getD 0 0) (p.getD (n - 1) 0)=true then .ret (n,p) else kas_descPart n nrem (kas_rev p 0 n)))
   by_cases e:Kr r p 0<Kr r p (n - 1)
   ·rw [if_pos (uE e)]
    exact ⟨rfl,Array.Perm.refl _,a1,by show n≤nrem;omega,a3⟩
   ·rw [if_neg (wF e)]
    have eq:∀ k,0≤k→k<n→Kr r p k=Kr r p (n - 1):=fun k _ hk=>by
     have g1:=a3 0 k (by omega) hk
     have g2:=a3 k (n - 1) (by omega) (by omega)
     omega
    have kk:=fun k=>nQ (r:=r) (p:=p) (i:=0) (j:=n) (by omega) eq k
    have sz:(kas_rev p 0 n).size=p.size:=mirror_size _ _ _ _
    obtain ⟨b1,b2,b3,b4,b5⟩:=jN (r:=r) (n:=n) (nrem:=nrem) (p:=kas_rev p 0 n) (by omega) (by rw [sz];omega) fun i j hij hj=>by
     rw [kk,kk]
     by_cases e1:j=n
     ·subst e1
      by_cases e2:i=j
      ·subst e2;omega
      ·have:=eq i (by omega) (by omega);omega
     ·have g1:=eq i (by omega) (by omega)
      have g2:=eq j (by omega) (by omega)
      omega
    exact ⟨b1.trans sz,b2.trans (dJ _ _ _),b3,b4,b5⟩
  ·rw [if_neg d]
   refine jN (by omega) hz fun i j hij hj=>?_
   have:n=1:=by omega
   subst this
   by_cases e2:i=j
   ·subst e2;omega
   ·rw [show i=0 by omega,show j=1 by omega]
    exact Int.le_of_lt lt
theorem kS {p:Array Nat}{k:Nat}(hs:Srt r p k):∀ f l q,l≤q→q≤k→q - l≤f→(∀ i,i<l→Kr r p i≤Kr r p k)→(∀ i,q≤i→i<k→Kr r p k<Kr r p i) →
  ∀ m,m=aW r (kas_place p k f l q)→m≤k∧(∀ i,i<m→Kr r p i≤Kr r p k)∧∀ i,m≤i→i<k→Kr r p k<Kr r p i
 | 0,l,q,h1,h2,h3,ha,hb,m,hm=>by
  obtain rfl:m=l:=hm
  exact ⟨by omega,ha,fun i hi hk=>hb i (by omega) hk⟩
 | f+1,l,q,h1,h2,h3,ha,hb,m,hm=>by
  have e:aW r (kas_place p k (f+1) l q)=aW r (if l≥q then .ret l else .ask (p.getD k 0) (p.getD ((l+q) / 2) 0) fun c=>if c=true then kas_place p k f l ((l+q) / 2) else kas_place p k f ((l+q) / 2+1) q):=rfl
  rw [e] at hm
  by_cases c:l≥q
  ·rw [if_pos c] at hm
   obtain rfl:m=l:=hm
   exact ⟨by omega,ha,fun i hi hk=>hb i (by omega) hk⟩
  ·rw [if_neg c] at hm
   have e2:aW r (KasT.ask (p.getD k 0) (p.getD ((l+q) / 2) 0) fun c=>if c=true then kas_place p k f l ((l+q) / 2) else kas_place p k f ((l+q) / 2+1) q)=aW r (if rlt r (p.getD k 0) (p.getD ((l+q) / 2) 0)=true then kas_place p k f l ((l+q) / 2) else kas_place p k f ((l+q) / 2+1) q):=rfl
   rw [e2] at hm
   by_cases d:Kr r p k<Kr r p ((l+q) / 2)
   ·rw [if_pos (uE d)] at hm
    exact kS hs f l ((l+q) / 2) (by omega) (by omega) (by omega) ha (fun i hi hk=>by have:=hs ((l+q) / 2) i hi hk;omega) m hm
   ·rw [if_neg (wF d)] at hm
    exact kS hs f ((l+q) / 2+1) q (by omega) h2 (by omega) (fun i hi=>by have:=hs i ((l+q) / 2) (by omega) (by omega);omega) hb m hm
theorem uV:∀ f (p:Array Nat) k,k+f≤p.size→Srt r p k→(aW r (kas_bin f p k)).Perm p∧(aW r (kas_bin f p k)).size=p.size∧Srt r (aW r (kas_bin f p k)) (k+f)
 | 0,p,k,hz,hs=>⟨Array.Perm.refl _,rfl,hs⟩
 | f+1,p,k,hz,hs=>by
  have e:aW r (kas_bin (f+1) p k)=aW r (kas_bin f (bubble p k (k - aW r (kas_place p k k 0 k))) (k+1)):=cY (r:=r) _
  rw [e]
  obtain ⟨a1,a2,a3⟩:=kS hs k 0 k (by omega) (by omega) (by omega) (fun i hi=>by omega) (fun i h1 h2=>by omega) _ rfl
  generalize aW r (kas_place p k k 0 k)=l at a1 a2 a3 ⊢
  have sz:(bubble p k (k - l)).size=p.size:=bubble_size _ _ _
  have kb:=fun i=>aCB (r:=r) (p:=p) (src:=k) (d:=k - l) (by omega) (by omega) i
  obtain ⟨b1,b2,b3⟩:=uV f (bubble p k (k - l)) (k+1) (by rw [sz];omega) fun i j hij hj=>by
   rw [kb,kb]
   have g1:∀ i,i<l→Kr r p i≤Kr r p k:=a2
   have g2:∀ i,l≤i→i<k→Kr r p k<Kr r p i:=a3
   by_cases i1:i=k - (k - l) <;> by_cases j1:j=k - (k - l)
   ·rw [if_pos i1,if_pos j1];omega
   ·rw [if_pos i1,if_neg j1,if_pos ⟨by omega,by omega⟩]
    exact Int.le_of_lt (g2 _ (by omega) (by omega))
   ·rw [if_neg i1,if_pos j1,if_neg (by omega)]
    exact g1 i (by omega)
   ·rw [if_neg i1,if_neg j1]
    by_cases i2:k - (k - l)<i∧i≤k
    ·rw [if_pos i2,if_pos ⟨by omega,by omega⟩]
     exact hs _ _ (by omega) (by omega)
    ·rw [if_neg i2]
     by_cases j2:k - (k - l)<j∧j≤k
     ·rw [if_pos j2]
      exact hs _ _ (by omega) (by omega)
     ·rw [if_neg j2]
      exact hs _ _ hij (by omega)
  exact ⟨b1.trans (bubble_perm _ _ _),b2.trans sz,by rw [show k+(f+1)=k+1+f by omega];exact b3⟩
theorem xR {n:Nat}(h1:1≤n):(aW r (kas_sort n)).Perm (List.toArray (List.range n))∧(aW r (kas_sort n)).size=n∧Srt r (aW r (kas_sort n)) n:=by
 unfold kas_sort
 rw [cY]
 have hz:(List.toArray (List.range n)).size=n:=by simp
 obtain ⟨a1,a2,a3,a4,a5⟩:=vL (r:=r) (nrem:=n) (p:=List.toArray (List.range n)) h1 (by omega)
 generalize aW r (kas_count n (List.toArray (List.range n)))=R at a1 a2 a3 a4 a5 ⊢
 by_cases c:R.1<n
 ·rw [if_pos c]
  obtain ⟨b1,b2,b3⟩:=uV (r:=r) (n - max R.1 1) R.2 (max R.1 1) (by omega) (by rw [show max R.1 1=R.1 by omega];exact a5)
  exact ⟨b1.trans a2,by omega,by rw [show max R.1 1+(n - max R.1 1)=n by omega] at b3;exact b3⟩
 ·rw [if_neg c]
  exact ⟨a2,by show R.2.size=n;omega,by rw [show R.1=n by omega] at a5;exact a5⟩
end
end L2
namespace L2
open PySem PySem.W PyProof.Rows
section
variable {N:Nat}
noncomputable def Bnd (N:Nat) (p:Array Nat):Prop:=∀ k,p.getD k 0<N
theorem Bnd.perm {p q:Array Nat}(hN:0<N)(h:Bnd N p)(e:q.Perm p):Bnd N q:=fun k=>by
 rw [Array.getD_eq_getD_getElem?]
 by_cases c:k<q.size
 ·rw [Array.getElem?_eq_getElem c]
  have hm:q[k]∈p:=e.mem_iff.mp (Array.getElem_mem c)
  obtain ⟨i,hi,e2⟩:=Array.getElem_of_mem hm
  have:=h i
  rw [Array.getD_eq_getD_getElem?,Array.getElem?_eq_getElem hi] at this
  show q[k]<N
  rw [← e2]
  exact this
 ·rw [Array.getElem?_eq_none (by omega)]
  exact hN
noncomputable def AskP (N:Nat) {α:Type} (P:α→Prop):KasT α→Prop
 | .ret a=>P a
 | .ask i j k=>i<N∧j<N∧∀ b,AskP N P (k b)
theorem AskP.bind {α β:Type}{f:α→KasT β}{P:α→Prop}{Q:β→Prop}(hf:∀ a,P a→AskP N Q (f a)):∀ t:KasT α,AskP N P t→AskP N Q (t.bind f)
 | .ret a,h=>hf a h
 | .ask i j k,h=>⟨h.1,h.2.1,fun b=>AskP.bind hf (k b) (h.2.2 b)⟩
theorem AskP.ite {α:Type}{P:α→Prop}{c:Prop}[Decidable c]{t u:KasT α}(h1:c→AskP N P t)(h2:¬ c→AskP N P u):AskP N P (if c then t else u):=by
 by_cases h:c
 ·rw [if_pos h];exact h1 h
 ·rw [if_neg h];exact h2 h
theorem rD {p:Array Nat}(hb:Bnd N p):∀ f n,AskP N (fun _=>True) (kas_asc p f n)
 | 0,n=>trivial
 | f+1,n=>⟨hb _,hb _,fun b=>AskP.ite (fun _=>trivial) fun _=>rD hb f (n+1)⟩
theorem kD (hN:0<N):∀ f (p:Array Nat) n q,Bnd N p→AskP N (fun R=>Bnd N R.1) (kas_desc f p n q)
 | 0,p,n,q,hb=>hb
 | f+1,p,n,q,hb=>⟨hb _,hb _,fun b=>AskP.ite (fun _=>AskP.ite (fun _=>kD hN f _ _ _ (hb.perm hN (dJ _ _ _))) fun _=>kD hN f _ _ _ hb) fun _=>⟨hb _,hb _,fun d=>AskP.ite (fun _=>hb) fun _=>kD hN f _ _ _ hb⟩⟩
theorem pU (hN:0<N){n nrem:Nat}{p:Array Nat}(hb:Bnd N p):AskP N (fun R:Nat × Array Nat=>Bnd N R.2) (kas_tail3 n nrem p):=by
 unfold kas_tail3
 refine AskP.bind (P:=fun _=>True) (fun a _=>?_) _ (rD (hb.perm hN (dJ _ _ _)) _ _)
 exact hb.perm hN (dJ _ _ _)
theorem jO (hN:0<N){n nrem:Nat}{p:Array Nat}(hb:Bnd N p):AskP N (fun R:Nat × Array Nat=>Bnd N R.2) (kas_descPart n nrem p):=by
 unfold kas_descPart
 refine AskP.bind (fun R hR=>?_) _ (kD hN _ _ _ _ hb)
 exact AskP.ite (fun _=>pU hN (Bnd.perm hN hR (dJ _ _ _))) fun _=>pU hN hR
theorem vS (hN:0<N){nrem:Nat}{p:Array Nat}(hb:Bnd N p):AskP N (fun R:Nat × Array Nat=>Bnd N R.2) (kas_count nrem p):=by
 unfold kas_count
 refine AskP.bind (P:=fun _=>True) (fun n _=>?_) _ (rD hb _ _)
 refine AskP.ite (fun _=>?_) fun _=>AskP.ite (fun _=>⟨hb _,hb _,fun c=>AskP.ite (fun _=>?_) fun _=>jO hN (hb.perm hN (dJ _ _ _))⟩) fun _=>jO hN hb
 ·exact hb
 ·exact hb
theorem lJ {p:Array Nat}{k:Nat}(hb:Bnd N p):∀ f l q,AskP N (fun _=>True) (kas_place p k f l q)
 | 0,l,q=>trivial
 | f+1,l,q=>AskP.ite (fun _=>trivial) fun _=>⟨hb _,hb _,fun c=>AskP.ite (fun _=>lJ hb f _ _) fun _=>lJ hb f _ _⟩
theorem wA (hN:0<N):∀ f (p:Array Nat) k,Bnd N p→AskP N (fun _=>True) (kas_bin f p k)
 | 0,p,k,hb=>trivial
 | f+1,p,k,hb=>AskP.bind (fun l _=>wA hN f _ _ (hb.perm hN (bubble_perm _ _ _))) _ (lJ hb _ _ _)
theorem xW (hN:0<N):AskP N (fun _=>True) (kas_sort N):=by
 have hb:Bnd N (List.toArray (List.range N)):=fun k=>by
  rw [Array.getD_eq_getD_getElem?]
  by_cases c:k<N
  ·simp [c]
  ·simp [c,hN]
 unfold kas_sort
 refine AskP.bind (fun R hR=>?_) _ (vS hN hb)
 refine AskP.ite (fun _=>wA hN _ _ _ hR) fun _=>?_
 exact trivial
theorem yO {r:Nat→Int}{cmp:Nat→Nat→(Bool→Shared→Prop)→Shared→Prop}{s:Shared}(hc:∀ i j C,i<N→j<N→C (rlt r i j) s→cmp i j C s){α:Type}{P:α→Prop}{Q:α→Shared→Prop}:∀ t:KasT α,AskP N P t→Q (aW r t) s→t.kasWp cmp Q s
 | .ret a,_,h=>h
 | .ask i j k,ha,h=>hc i j _ ha.1 ha.2.1 (yO hc (k (rlt r i j)) (ha.2.2 _) h)
end
theorem nH:∀ {a b:List Int},cO a b=false→cO b a=false→a=b
 | [],[],_,_=>rfl
 | [],_ :: _,h,_=>by cases h
 | _ :: _,[],_,h=>by cases h
 | x :: a,y :: b,h1,h2=>by
  rw [cO] at h1 h2
  by_cases e:x=y
  ·subst e
   rw [if_pos rfl] at h1 h2
   rw [nH h1 h2]
  ·rw [if_neg e] at h1
   rw [if_neg (Ne.symm e)] at h2
   have g1:=of_decide_eq_false h1
   have g2:=of_decide_eq_false h2
   omega
noncomputable def sJ (R:List (List Int)) (i:Nat):Int:=((R.countP fun q=>cO q (R.getD i [])):Nat)
theorem oW {p q:List Int→Bool}:∀ {l:List (List Int)},(∀ x∈l,p x=true→q x=true)→(∃ x∈l,p x=false∧q x=true)→l.countP p<l.countP q
 | [],_,⟨_,h,_⟩=>by cases h
 | a :: l,h,⟨x,hx,h1,h2⟩=>by
  have mono:l.countP p≤l.countP q:=List.countP_mono_left fun x hx=>h x (List.mem_cons_of_mem _ hx)
  rw [List.countP_cons,List.countP_cons]
  rcases List.mem_cons.mp hx with e | hx
  ·subst e
   rw [h1,h2]
   simp
   omega
  ·have ih:=oW (fun x hx=>h x (List.mem_cons_of_mem _ hx)) ⟨x,hx,h1,h2⟩
   have ha:=h a (List.mem_cons_self ..)
   cases e1:p a with
   | false=>simp;split <;> omega
   | true=>rw [ha e1];simp;omega
theorem qU {R:List (List Int)}{i j:Nat}(hi:i<R.length)(hj:j<R.length):(sJ R i<sJ R j)↔cO (R.getD i []) (R.getD j [])=true:=by
 have mem:∀ k,k<R.length→R.getD k []∈R:=fun k hk=>by
  rw [List.getD_eq_getElem?_getD,List.getElem?_eq_getElem hk];exact List.getElem_mem hk
 unfold sJ
 constructor
 ·intro h
  cases e:cO (R.getD i []) (R.getD j []) with
  | true=>rfl
  | false=>
   exfalso
   have:R.countP (fun q=>cO q (R.getD j []))≤R.countP (fun q=>cO q (R.getD i [])):=List.countP_mono_left fun x _ hx=>by
    cases e2:cO (R.getD j []) (R.getD i []) with
    | true=>exact eO hx e2
    | false=>rw [nH e e2];exact hx
   omega
 ·intro h
  have:=oW (l:=R) (p:=fun q=>cO q (R.getD i [])) (q:=fun q=>cO q (R.getD j [])) (fun x _ hx=>eO hx h) ⟨_,mem i hi,gD _,h⟩
  omega
end L2
namespace L2
open PySem PySem.W PyProof.Rows
noncomputable def TupsAt (h:Heap) (vs:List Value) (R:List (List Int)):Prop:=vs.length=R.length∧∀ (i:Nat) (row:List Int),R[i]?=some row→∃ x us,vs[i]?=some (.ref x)∧IsTup h x us.toArray∧IntsAre us row
section
variable {prog:Program}{w:World}{A:Around}{E:Value→Shared→Prop}{s:Shared}
theorem yT {fin:Bool}{Q:Bool→Shared→Prop}:∀ {us vs:List Value} {ns ms:List Int} (i:Nat),IntsAre us ns→IntsAre vs ms→Q (rS fin (ns.zip ms)) s→KatLex prog w A true fin Q (us.zip vs) i s
 | [],_,_,_,i, .nil,_,h=>by rw [List.zip_nil_left];exact kat_nil (by simpa [rS] using h)
 | _ :: _,[],_,_,i, .cons _ _ _, .nil,h=>by rw [List.zip_nil_right];exact kat_nil (by simpa [rS] using h)
 | _ :: us,_ :: vs,_ :: ns,_ :: ms,i, .cons n t h1, .cons m u h2,h=>by
  rw [List.zip_cons_cons,rS] at h
  rw [List.zip_cons_cons]
  refine kat_cons (SeqAt.EqAt.int_int n t m u prog w _ _ ?_)
  by_cases c:n=m
  ·rw [if_pos c] at h
   rw [show (n == m)=true from by rw [c];exact beq_self_eq_true _]
   exact kat_yes (yT (i+1) h1 h2 h)
  ·rw [if_neg c] at h
   rw [show (n == m)=false from beq_false_of_ne c]
   refine kat_no ?_
   by_cases z:i=0
   ·subst z
    exact oneLt_int h
   ·rw [show (true && i == 0)=false by simp [z]]
    exact kat_one _ _ (kP h)
theorem aAg {vs:List Value}{R:List (List Int)}(hv:TupsAt s.heap vs R){i j:Nat}{C:Bool→Shared→Prop}(hi:i<R.length)(hj:j<R.length)(h:C (rlt (sJ R) i j) s):kas_ask prog w A (tuples' true) vs i j C s:=by
 have at':∀ k,k<R.length→∃ x us,vs.getD k Value.none = .ref x∧IsTup s.heap x us.toArray∧IntsAre us (R.getD k []):=fun k hk=>by
  obtain ⟨x,us,e1,e2,e3⟩:=hv.2 k R[k] (List.getElem?_eq_getElem hk)
  refine ⟨x,us,by rw [List.getD_eq_getElem?_getD,e1];rfl,e2,?_⟩
  rw [List.getD_eq_getElem?_getD,List.getElem?_eq_getElem hk]
  exact e3
 obtain ⟨x,us,e1,⟨ox,a1,_,n1,d1⟩,b1⟩:=at' i hi
 obtain ⟨y,vs',e2,⟨oy,a2,_,n2,d2⟩,b2⟩:=at' j hj
 show wpAny (model prog w) A (keyLt' (tuples' true) (vs.getD i Value.none) (vs.getD j Value.none)) C (fun _ _=>False) s
 rw [e1,e2]
 refine kat_lt a1 d1 a2 d2 ?_
 have hl1:us.length=(R.getD i []).length:=IntsAre.len b1
 have hl2:vs'.length=(R.getD j []).length:=IntsAre.len b2
 have e:rlt (sJ R) i j=rS (decide (us.toArray.size<vs'.toArray.size)) ((R.getD i []).zip (R.getD j [])):=by
  rw [List.size_toArray,List.size_toArray,hl1,hl2,qW]
  unfold rlt
  by_cases c:cO (R.getD i []) (R.getD j [])=true
  ·rw [c];exact decide_eq_true ((qU hi hj).mpr c)
  ·rw [Bool.not_eq_true _ |>.mp c];exact decide_eq_false fun z=>c ((qU hi hj).mp z)
 exact yT 0 b1 b2 (by rw [← e];exact h)
theorem iI {h:Heap}:∀ {vs:List Value} {R:List (List Int)},TupsAt h vs R→(∀ q∈R,q≠[])→∃ fs,KatTups h vs fs∧fs.length=R.length∧∀ v∈fs,∃ i t,v = .int i t
 | [],[],_,_=>⟨[],trivial,rfl,fun _ z=>by cases z⟩
 | [],_ :: _,hv,_=>by cases hv.1
 | _ :: _,[],hv,_=>by cases hv.1
 | v :: vs,q :: R,hv,hne=>by
  obtain ⟨x,us,e1,⟨o,a1,a2,n,a3⟩,b⟩:=hv.2 0 q rfl
  obtain ⟨fs,k,l,f⟩:=iI (vs:=vs) (R:=R) ⟨by simpa using hv.1,fun i row hr=>hv.2 (i+1) row hr⟩ fun q hq=>hne q (List.mem_cons_of_mem _ hq)
  obtain rfl:v = .ref x:=by simpa using e1
  cases b with
  | nil=>exact absurd rfl (hne [] (List.mem_cons_self ..))
  | cons m t r=>
   exact ⟨.int m t :: fs,⟨⟨x,o,_,n,rfl,a1,a2,a3,rfl⟩,k⟩,by simp [l],fun v hv'=>by
    rcases List.mem_cons.mp hv' with e | hv'
    ·exact ⟨m,t,e⟩
    ·exact f v hv'⟩
theorem TupsAt.keep {h h':Heap}{vs:List Value}{R:List (List Int)}(hv:TupsAt h vs R)(k:∀ x us,IsTup h x us→IsTup h' x us):TupsAt h' vs R:=
 ⟨hv.1,fun i row hr=>by obtain ⟨x,us,e1,e2,e3⟩:=hv.2 i row hr;exact ⟨x,us,e1,k _ _ e2,e3⟩⟩
noncomputable def Put (R:List (List Int)) (p:Array Nat):Prop:=p.Perm (List.toArray (List.range R.length))∧∀ i j,i≤j→j<R.length→cO (R.getD (p.getD j 0) []) (R.getD (p.getD i 0) [])=false
theorem nK {a:Addr}{vs:List Value}{n:Nat}{R:List (List Int)}{P:Fin→Shared→Prop}(ho:s.heap.get? a=some (seqObj "list" vs.toArray n))(hv:TupsAt s.heap vs R)(hne:∀ q∈R,q≠[])(h64:vs.length<64)
  (h:∀ p,Put R p→P (.done (.ret .none)) { s with heap:=sortedHeap s.heap a vs (List.toArray (p.toList.map fun i=>vs.getD i Value.none)) }):wpAny (model prog w) A (Builtin.«list.sort» ⟨[.ref a],[]⟩) P E s:=by
 have ha:=Heap.lt_size ho
 have hz:vs.length≤sizeLine:=by rw [sizeLine_eq];omega
 obtain ⟨e1,ho1⟩:∃ e1,(s.heap.update a (Obj.mapSeq fun _=>#[])).get? a=some (seqObj "list" #[] e1):=⟨_,get?_update_seq ho fun _=>#[]⟩
 rw [list_sort_plain]
 refine wpAny_bind (listItems_at ho rfl (wpAny_bind (listUpdate_at ho rfl ?g1 (by rw [List.size_toArray];exact hz) (Nat.zero_le _))))
 case g1=>
 refine wpAny_bind (seqEpoch_at ho1 rfl (wpAny_bind (wpAny_newTuple ?g2 (by show vs.length≤_;exact hz))))
 case g2=>
 refine wpAny_bind (wpAny_newList (wpAny_holding ?g3) (Nat.zero_le _))
 case g3=>
 obtain ⟨h3,eh⟩:∃ h3,h3=((s.heap.update a (Obj.mapSeq fun _=>(#[]:Array Value))).push (seqObj "tuple" vs.toArray 0)).push (seqObj "list" #[] 0):=⟨_,rfl⟩
 show wpAny (model prog w) A _ P E { s with heap:=((s.heap.update a (Obj.mapSeq fun _=>#[])).push (seqObj "tuple" vs.toArray 0)).push (seqObj "list" #[] 0) }
 rw [← eh]
 have ho3:h3.get? a=some (seqObj "list" #[] e1):=by
  rw [eh]
  exact Heap.get?_push_of_some _ (Heap.get?_push_of_some _ ho1)
 have hv3:TupsAt h3 vs R:=hv.keep fun x us ⟨o,b1,b2,b3⟩=>by
  have hx:x≠a:=fun e=>by
   subst e
   rw [ho] at b1
   cases b1
   exact absurd (Value.type.inj (show Value.type "list" = Value.type "tuple" from b2)) (by decide)
  refine ⟨o,?_,b2,b3⟩
  rw [eh]
  exact Heap.get?_push_of_some _ (Heap.get?_push_of_some _ (by rw [Heap.get?_update_ne _ _ _ _ hx];exact b1))
 dsimp only
 have fin:∀ (p:Array Nat) (st':SortSt),Put R p→p.size=vs.length→arrOf st'=p.map (kas_item (vs.toArray.zip vs.toArray))→failedOf st'=none→wpAny (model prog w) A (do
   let touched:=(← seqEpoch a) != e1
   Builtin.List.listUpdate (.ref a) fun _=>(arrOf st').map (·.2)
   if let some e:=failedOf st' then rule "list.sort.comparison-raised";throw e
   if touched then rule "list.sort.modified";raiseError "ValueError" "list modified during sort"
   ret .none) P E { s with heap:=h3 }:=fun p st' hp hsz har hf=>by
  rw [kat_snds rfl har,hf]
  refine wpAny_bind (seqEpoch_at ho3 rfl (wpAny_bind (listUpdate_at ho3 rfl ?g4 (Nat.zero_le _) ?g5)))
  case g5=>
   show (List.toArray _).size≤_
   rw [List.size_toArray,List.length_map,Array.length_toList];omega
  case g4=>
   simp only [bne_self_eq_false,Bool.false_eq_true,if_false]
   have:=h p hp
   unfold sortedHeap at this
   rw [← eh] at this
   exact wpAny_pure this
 by_cases c:vs.toArray.size<2
 ·rw [if_pos c,if_pos c]
  refine wpAny_bind (wpAny_pure ?g6)
  case g6=>
  rw [StateT.run_pure]
  refine wpAny_bind (wpAny_pure ?g7)
  case g7=>
  have e2:(vs.toArray.zip vs.toArray).size=vs.length:=by simp
  refine fin (List.toArray (List.range vs.length)) (SortSt.mk' general' (vs.toArray.zip vs.toArray) #[] 7 none) ⟨by rw [hv.1],fun i j hij hj=>?_⟩ (by simp) ?_ rfl
  ·have hl:R.length<2:=by rw [← hv.1];simpa using c
   rw [show i=j by omega]
   exact gD _
  ·have:=kas_range (vs.toArray.zip vs.toArray)
   rw [e2] at this
   exact this.symm
 ·rw [if_neg c,if_neg c]
  have h2:2≤vs.length:=by simpa using c
  obtain ⟨fs,k1,k2,k3⟩:=iI hv3 hne
  refine wpAny_bind (kat_kind (s:={ s with heap:=h3 }) (T := .type "int") k1 (by have:=hv.1;omega) (fun v hv'=>?g8) (by decide) ?g9)
  case g8=>
   obtain ⟨i,t,rfl⟩:=k3 v hv'
   exact Looks.of_pure rfl
  case g9=>
  obtain ⟨q1,q2,q3⟩:=xR (r:=sJ R) (n:=vs.length) (by omega)
  refine wpAny_bind (wpAny_mono (kat_run (ks:=vs) (vs:=vs) (s:={ s with heap:=h3 }) (κ:=tuples' true) (Q:=fun st' s'=>s'={ s with heap:=h3 }∧arrOf st'=(aW (sJ R) (kas_sort vs.length)).map (kas_item (vs.toArray.zip vs.toArray))∧failedOf st'=none) (G:=fun p' s'=>p'=aW (sJ R) (kas_sort vs.length)∧s'={ s with heap:=h3 }) rfl h2 h64 (fun p' st' s' a1 a2 a3 a4=>⟨a4.2,by rw [← a4.1];exact a2,a3⟩)
   (yO (N:=vs.length) (r:=sJ R) (fun i j C hi hj hC=>aAg (s:={ s with heap:=h3 }) hv3 (by rw [← hv.1];exact hi) (by rw [← hv.1];exact hj) hC) _ (xW (by omega)) ⟨rfl,rfl⟩)) ?_ fun _ _ e=>e)
  rintro ⟨⟨⟩,st'⟩ s' ⟨rfl,har,hf⟩
  refine fin _ st' ⟨by rw [← hv.1];exact q1,fun i j hij hj=>?_⟩ q2 har hf
  have hle:=q3 i j hij (by rw [hv.1];exact hj)
  have bd:∀ k,k<vs.length→(aW (sJ R) (kas_sort vs.length)).getD k 0<R.length:=fun k hk=>by
   rw [Array.getD_eq_getD_getElem?,Array.getElem?_eq_getElem (by omega)]
   have:=q1.mem_iff.mp (Array.getElem_mem (show k<(aW (sJ R) (kas_sort vs.length)).size by omega))
   rw [← hv.1]
   simpa using this
  have hlt:=qU (R:=R) (bd j (by rw [hv.1];exact hj)) (bd i (by rw [hv.1];omega))
  cases z:cO (R.getD ((aW (sJ R) (kas_sort vs.length)).getD j 0) []) (R.getD ((aW (sJ R) (kas_sort vs.length)).getD i 0) []) with
  | false=>rfl
  | true=>
   have:=hlt.mpr z
   unfold Kr at hle
   omega
end
end L2
namespace L2
open PySem PySem.W PyProof.Rows
section
variable {prog:Program}{w:World}{A:Around}{E:Value→Shared→Prop}{s:Shared}
theorem sV {l:Addr}{ob:Obj}{n:Nat}{T:String}{us:List Value}{R:List (List Int)}{Q:Value→Shared→Prop}(e0:s.heap.get? l=some ob)(ec:ob.cls = .type T)(eT:T="list"∨T="tuple")(ed:ob.data = .seq us.toArray n)(hv:TupsAt s.heap us R)(hne:∀ q∈R,q≠[])(h64:us.length<64)
  (q:∀ p,Put R p→Q (.ref (s.heap.objs.size+1)) { s with heap:=sortedAll s.heap us (List.toArray (p.toList.map fun i=>us.getD i Value.none)) }):wpAny (model prog w) A (call (.builtin "sorted") [.ref l]) Q E s:=by
 refine Calls.call_function_entry kind_sorted plain_sorted entry_sorted (args_sorted1 _) ?g1
 case g1=>
 unfold Builtin.«sorted»
 refine wpAny_bind (m:=checkCount "sorted" 1 1 _) (wpAny_pure (wpAny_bind (mR e0 ec eT ed (wpAny_bind (wpAny_newList ?g2)) (Nat.le_trans (Nat.le_of_lt h64) (by decide)))))
 case g2=>
 obtain ⟨h1,eh1⟩:∃ h1,h1=(s.heap.push (seqObj "list" #[] 0)).update s.heap.objs.size (Obj.mapSeq (· ++ us.toArray)):=⟨_,rfl⟩
 have z1:h1.objs.size=s.heap.objs.size+1:=by rw [eh1,Heap.size_update,size_push']
 have old:∀ x o,s.heap.get? x=some o→(h1.push (seqObj "list" us.toArray 0)).get? x=some o:=fun x o e=>by
  have hx:=Heap.lt_size e
  refine Heap.get?_push_of_some _ ?_
  rw [eh1,Heap.get?_update_ne _ _ _ _ (Nat.ne_of_lt hx)]
  exact Heap.get?_push_of_some _ e
 have e2:(h1.push (seqObj "list" us.toArray 0)).get? (s.heap.objs.size+1)=some (seqObj "list" us.toArray 0):=by rw [← z1];exact Heap.get?_push_size _ rfl
 have hv2:TupsAt (h1.push (seqObj "list" us.toArray 0)) us R:=hv.keep fun x vs ⟨o,b1,b2,b3⟩=>⟨o,old x o b1,b2,b3⟩
 show wpAny _ _ _ _ _ { s with heap:=((s.heap.push (seqObj "list" #[] 0)).update s.heap.objs.size (Obj.mapSeq (· ++ us.toArray))).push (seqObj "list" us.toArray 0) }
 rw [← eh1,z1]
 refine wpAny_bind (wpAny_holding (wpAny_call_entry slot_list_sort ⟨_,e2,rfl⟩ entry_list_sort (nK (s:={ s with heap:=h1.push (seqObj "list" us.toArray 0) }) e2 hv2 hne h64 fun p hp=>⟨_,rfl,wpAny_pure ⟨_,rfl,?g3⟩⟩) (args_list_sort _)))
 case g3=>
  have:=q p hp
  unfold sortedAll at this
  rw [← eh1] at this
  exact this
end
theorem yH {R:List (List Int)}{p:Array Nat}(h:Put R p):(p.toList.map fun i=>R.getD i []).Perm R∧(p.toList.map fun i=>R.getD i []).Pairwise (fun a b=>cO b a=false):=by
 have pl:p.toList.Perm (List.range R.length):=by simpa using Array.perm_iff_toList_perm.mp h.1
 have e:(List.range R.length).map (fun i=>R.getD i [])=R:=by
  apply List.ext_getElem
  ·simp
  ·intro i h1 h2
   rw [List.getElem_map,List.getElem_range,List.getD_eq_getElem?_getD,List.getElem?_eq_getElem h2];rfl
 have hl:p.size=R.length:=by rw [← Array.length_toList,pl.length_eq,List.length_range]
 refine ⟨by have:=pl.map fun i=>R.getD i [];rw [e] at this;exact this,?_⟩
 rw [List.pairwise_iff_getElem]
 intro i j hi hj hij
 rw [List.length_map,Array.length_toList] at hi hj
 have:=h.2 i j (by omega) (by omega)
 rw [Array.getD_eq_getD_getElem?,Array.getElem?_eq_getElem hj,Array.getD_eq_getD_getElem?,Array.getElem?_eq_getElem hi] at this
 rw [List.getElem_map,List.getElem_map,Array.getElem_toList,Array.getElem_toList]
 exact this
noncomputable def wB (K:PySem.W.Frag):List V→Hp→VK→Prop:=fun vs H Q=>∃ (a:Addr) (xs:List V) (R:List (List Int)),vs=[.ref a]∧Sq K H a xs∧Rows K H xs R∧(∀ q∈R,q≠[])∧R.length<64 ∧
 ∀ (ys:List V) (R':List (List Int)),R'.Perm R→R'.Pairwise (fun a b=>cO b a=false)→ys.Perm xs→Rows K H ys R'→∀ l,H l=none→Q (.ref l) (upd H l (.lst ys))
theorem sX {X:Cx}:CallR X (.builtin "sorted") (wB X.K):=by
 intro pins s σ H vs us Q I r ⟨a,xs,R,e,hq,hR,hne,h64,q⟩
 subst e
 obtain ⟨u,rfl,ru⟩:=pG r
 obtain rfl:u=Value.ref a:=ru
 have go:∀ (its:List Value) (ob:Obj) (n:Nat) (T:String),Vals xs its→s.heap.get? a=some ob→ob.cls = .type T→(T="list"∨T="tuple")→ob.data = .seq its.toArray n→wpAny (model X.prog X.w) X.A (call (.builtin "sorted") [.ref a]) (EP X pins σ Q) X.xe s:=by
  intro its ob n T rv e0 ec eT ed
  have hl:=rv.length
  have hv:TupsAt s.heap its R:=⟨by rw [← hl];exact hR.1,fun i row hr=>by
   obtain ⟨b,e1,e2⟩:=hR.2 i row hr
   obtain ⟨u,eu,rU⟩:=rv.get e1
   obtain rfl:u=Value.ref b:=rU
   obtain ⟨vs,rvs,pl,_⟩:=I.tuple e2
   exact ⟨b,vs,eu,pl,eN rvs⟩⟩
  refine sV e0 ec eT ed hv hne (by rw [← hl,hR.1];exact h64) fun p hp=>?_
  obtain ⟨f1,f2⟩:=yH hp
  have pl:p.toList.Perm (List.range R.length):=by simpa using Array.perm_iff_toList_perm.mp hp.1
  have hb:∀ i∈p.toList,i<R.length:=fun i hi=>List.mem_range.mp (pl.mem_iff.mp hi)
  obtain ⟨c,he⟩:=sortedAll_at s.heap its (List.toArray (p.toList.map fun i=>its.getD i Value.none))
  have ex:(List.range R.length).map (fun i=>xs.getD i V.non)=xs:=by
   apply List.ext_getElem
   ·simp [hR.1]
   ·intro i h1 h2
    rw [List.getElem_map,List.getElem_range,List.getD_eq_getElem?_getD,List.getElem?_eq_getElem h2];rfl
  have py:(p.toList.map fun i=>xs.getD i V.non).Perm xs:=by have:=pl.map fun i=>xs.getD i V.non;rw [ex] at this;exact this
  refine ⟨.ref (s.heap.objs.size+1),_,I.laid (t':=s.toks) (o := .lst (p.toList.map fun i=>xs.getD i V.non)) (fun b ob q=>sortedAll_old q) (Nat.le_succ _) ?_,rfl,q _ _ f1 f2 py ?_ _ (I.hok.fresh (Nat.le_succ _))⟩
  ·refine ⟨?_,p.toList.map fun i=>its.getD i Value.none,c,?_,by simpa using he⟩
   ·rw [List.length_map,pl.length_eq,List.length_range]
    exact Nat.le_trans (Nat.le_of_lt h64) (by decide)
   ·have all:∀ l:List Nat,(∀ i∈l,i<R.length)→Vals (l.map fun i=>xs.getD i V.non) (l.map fun i=>its.getD i Value.none):=by
     intro l
     induction l with
     | nil=>intro _;exact .nil
     | cons i l ih=>
      intro h
      have hi:i<xs.length:=by rw [hR.1];exact h i (List.mem_cons_self ..)
      obtain ⟨u,eu,rU⟩:=rv.get (List.getElem?_eq_getElem hi)
      refine .cons ?_ (ih fun j hj=>h j (List.mem_cons_of_mem _ hj))
      show RelV (xs.getD i V.non) (its.getD i Value.none)
      rw [List.getD_eq_getElem?_getD,List.getD_eq_getElem?_getD,eu,List.getElem?_eq_getElem hi]
      exact rU
    exact all _ hb
  ·refine ⟨by rw [List.length_map,List.length_map],fun i row hr=>?_⟩
   rw [List.getElem?_map] at hr
   cases ep:p.toList[i]? with
   | none=>rw [ep] at hr;cases hr
   | some k=>
    rw [ep] at hr
    obtain rfl:R.getD k []=row:=Option.some.inj hr
    have hk:=hb k (List.mem_of_getElem? ep)
    obtain ⟨b,e1,e2⟩:=hR.2 k R[k] (List.getElem?_eq_getElem hk)
    refine ⟨b,?_,?_⟩
    ·rw [List.getElem?_map,ep]
     show some (xs.getD k V.non)=_
     rw [List.getD_eq_getElem?_getD,e1];rfl
    ·rw [List.getD_eq_getElem?_getD,List.getElem?_eq_getElem hk];exact e2
 rcases hq with hq | hq
 ·obtain ⟨its,rv,pl,hz⟩:=I.list hq
  obtain ⟨o,ho,hc,n,hd⟩:=pl.isList
  exact go its o n "list" rv ho hc (.inl rfl) hd
 ·obtain ⟨its,rv,pl,hz⟩:=I.tuple hq
  obtain ⟨o,ho,hc,n,hd⟩:=pl
  exact go its o n "tuple" rv ho hc (.inr rfl) hd
theorem qR {X:Cx}{K:PySem.W.Frag}(hK:X.K=K):CallR X (.builtin "sorted") (wB K):=by subst hK;exact sX
noncomputable def pD (K:PySem.W.Frag):List V→Hp→VK→Prop:=fun vs H Q=>qY K vs H Q∨wB K vs H Q
theorem eS {X:Cx}{K:PySem.W.Frag}(hK:X.K=K):CallR X (.builtin "sorted") (pD K):=fun pins s σ H xs us Q I r h=>h.elim (pO hK pins s σ H xs us Q I r) (qR hK pins s σ H xs us Q I r)
end L2
namespace L2
open PySem PyProof.Rows
section
variable {X:Cx}
end
end L2
namespace L2
open PySem PyProof.Rows
section
variable {X:Cx}
end
end L2
namespace L2
open PySem PySem.Spec PyProof.Rows
section
variable {prog:Program}{w:World}{A:Around}{E:Value→Shared→Prop}{s:Shared}{d:Addr}{o:Obj}{es:Array DictEntry}{ep:Nat}
end
end L2
namespace L2
open PySem PySem.Spec PyProof.Rows
end L2
namespace L2
open PySem PySem.Spec PyProof.Rows
section
variable {prog:Program}{w:World}{K:Type}[DecidableEq K]{knd:HeapKind prog w K}{A:Around}{E:Value→Shared→Prop}{s:Shared}{d a:Addr}{xs:List (K × Addr × Value)}{k:K}
end
end L2
namespace L2
open PySem PySem.Spec PyProof.Rows
section
variable {X:Cx}{pins:List (Addr × Obj)}{σ:St}{H:Hp}{s:Shared}{A:Around}{E:Value→Shared→Prop}{a b:Addr}{kvs:List (List Key × V)}{k:List Key}
end
section
variable {X:Cx}{o e f:Expr}{td ty tx:TE}{apos cpos:Pos}
end
end L2
namespace L2
open PySem PySem.Spec PyProof.Rows
end L2
namespace L2
open PySem PySem.Spec PyProof.Rows
section
variable {prog:Program}{w:World}{A:Around}{E:Value→Shared→Prop}{s:Shared}{d:Addr}{o:Obj}{es:Array DictEntry}{ep:Nat}
end
end L2
namespace L2
open PySem PySem.Spec PyProof.Rows
section
variable {prog:Program}{w:World}{A:Around}{E:Value→Shared→Prop}{s:Shared}
end
section
variable {X:Cx}{o i value:Expr}{pos pos':Pos}{td ty tv:TE}
end
end L2
namespace L2
open PySem PySem.Spec PyProof.Rows
end L2
namespace L2
open PySem PySem.Spec PyProof.Rows
section
variable {X:Cx}
noncomputable def CMulG (i j:Int):Prop:=i.natAbs<2 ^ 8000∧j.natAbs<2 ^ 8000
theorem uS {k:Int}(h:k.natAbs<2 ^ 8000):Builtin.Int.intBits k≤8000:=by
 unfold Builtin.Int.intBits
 split
 ·exact Nat.zero_le _
 ·rename_i c
  have hk:k.natAbs≠0:=fun e=>c (by simp [Int.natAbs_eq_zero.mp e])
  have:=(Nat.log2_lt hk).mpr h
  omega
theorem CMulG.ok {i j:Int}(h:CMulG i j):IntMulOk i j:=by
 unfold IntMulOk Builtin.Int.intTooBig
 have h1:=uS h.1
 have h2:=uS h.2
 have:¬ (((Builtin.Int.intBits i+Builtin.Int.intBits j:Nat):Int) > (bitsLine:Int)):=by
  have:(16000:Int)≤(bitsLine:Int):=by decide
  omega
 intro e
 rw [Bool.and_eq_true] at e
 have:=of_decide_eq_true e.2
 omega
noncomputable def fN:R2:=fun x y H Q=>match x,y with
 | .int i, .int j=>(CMul i j∨CMulG i j)∧Q (.int (i*j)) H
 | .ref a, .int k=>aCU (.ref a) (.int k) H Q
 | _,_=>False
theorem cX:OpR X (binaryOp .Mult) fN:=by
 intro pins s σ H x y v u Q I rx ry h
 unfold fN at h
 split at h
 ·rcases h with ⟨h | h,q⟩
  ·exact aBq (X:=X) pins s σ H _ _ v u Q I rx ry ⟨_,_,rfl,rfl,h,q⟩
  ·exact (opI fun _ _ _ _ _ _ _ hc q=>mul_int q hc.ok:OpR X (binaryOp .Mult) (rI CMulG fun i j => .int (i*j))) pins s σ H _ _ v u Q I rx ry ⟨_,_,rfl,rfl,h,q⟩
 ·exact aBo (X:=X) pins s σ H _ _ v u Q I rx ry h
 ·exact h.elim
noncomputable def aBy (i j:Int):Prop:=0<j∧j.natAbs<2 ^ 8000
noncomputable abbrev tM:R2:=rI aBy fun i j => .int (i / j)
theorem oJ:OpR X (binaryOp .FloorDiv) tM:=opI fun i j _ _ _ _ _ hc q=>by
 have h1:(0:Int)<j:=hc.1
 refine floordiv_int (by omega) (by rw [Int.fdiv_eq_ediv_of_nonneg i (by omega)];exact q) (.inl (PyProof.noPylong_of_log2 ?_))
 have:=(Nat.log2_lt (show j.natAbs≠0 by omega)).mpr hc.2
 omega
end
end L2
namespace L2
open PySem PySem.Spec PyProof.Rows
end L2
namespace L2
open PySem PySem.Spec PyProof.Rows
section
variable {prog:Program}{w:World}{A:Around}{E:Value→Shared→Prop}{s:Shared}
end
end L2
namespace L2
open PySem PySem.Spec PyProof.Rows
section
variable {prog:Program}{w:World}{A:Around}{R:Result→Shared→Prop}{I:Addr}{fp wr:List Addr}{G:Array GenState→Array GenState→Prop}{n:Nat}{P:Nat→Value→Prop}{St:Nat→Shared→Prop}
end
section
variable {prog:Program}{w:World}{A:Around}{E:Value→Shared→Prop}{s:Shared}
end
end L2
namespace L2
open PySem PySem.Spec PyProof.Rows
noncomputable def SIt (it a:Addr) (slot i n ep:Nat) (h:Heap):Prop:=∃ o,h.get? it=some o∧o.cls = .type "set_iterator"∧o.data = .fields #[rawInt slot,rawInt i, .ref a,rawInt n,rawInt ep]
section
variable {prog:Program}{w:World}{A:Around}{E:Value→Shared→Prop}{s:Shared}{a:Addr}{es:Array (Int × Value)}{ep:Nat}{ks:List Nat}
end
end L2
namespace L2
open PySem PySem.Spec PySem.W PyProof.Rows
section
variable {prog:Program}{w:World}{A:Around}{E:Value→Shared→Prop}{s:Shared}{a:Addr}{es:Array (Int × Value)}{ep:Nat}{ks:List Nat}
theorem SIt.at {h h':Heap}{it:Addr}{sl i n:Nat}(x:SIt it a sl i n ep h)(e:∀ o,h.get? it=some o→h'.get? it=some o):SIt it a sl i n ep h':=let ⟨o,ho,r⟩:=x;⟨o,e _ ho,r⟩
end
section
variable {X:Cx}
end
end L2
namespace L2
open PySem PySem.Spec PyProof.Rows
theorem DP.at {X:Cx}{pins:List (Addr × Obj)}{σ:St}{H:Hp}{s:Shared}{a:Addr}{xs:PEs}{ep:Nat}(I:Inv X pins σ H s)(d:DP H a xs ep) :
  s.TypeIs (.ref a) "dict"∧(∀ b,Value.ref a = .ref b→∃ ob,s.heap.get? b=some ob∧ob.dict=none)∧(a == sysModules)=false:=by
 obtain ⟨_,hd,ys,_,dd⟩:=d.of I.hok
 refine ⟨dd.typeIs,fun b q=>?_,hd⟩
 cases q
 obtain ⟨ob,_,_,h1,h2,_⟩:=dd
 exact ⟨ob,h1,h2.2.1⟩
section
variable {X:Cx}{o e f:Expr}{apos cpos:Pos}{td ty tx:TE}
end
end L2
namespace L2
open PySem PySem.Spec PyProof.Rows
structure DefV (P:Program)(w:World)(K:PySem.W.Frag)(mg:Str→Option Value)(base:Heap)(k:Nat)(f:Addr)(sp:Sp):Prop where
 ex:∃ (fd:FuncData) (ps:List Str),FnOk P w K mg base (mW P w) k f fd ps sp∧PySem.W.keepIn K (.ref f)=true∧Binds K fd ps []
theorem DefV.mono {P:Program}{w:World}{K:PySem.W.Frag}{mg:Str→Option Value}{base:Heap}{j k:Nat}{f:Addr}{sp:Sp}(D:DefV P w K mg base j f sp)(h:j≤k):DefV P w K mg base k f sp:=by
 obtain ⟨fd,ps,F,r⟩:=D.ex
 exact ⟨fd,ps,F.mono h,r⟩
theorem DefX.v {P:Program}{w:World}{K:PySem.W.Frag}{mg:Str→Option Value}{base:Heap}{x:Str}{k:Nat}{ps:List Str}{sp:Sp}{f:Addr}(D:DefX P w K mg base x k ps sp)(h:mg x=some (.ref f)):DefV P w K mg base k f sp:=by
 obtain ⟨f',fd,F,hm,hk,hb⟩:=D.ex
 rw [h] at hm
 cases hm
 exact ⟨fd,ps,F,hk,hb⟩
noncomputable def rO (fo:Addr→Sp→Prop) (E:XK) (tf:TE) (t:TA):TE:=fun σ H Q=>tf σ H fun x H1=>∃ f sp,x = .ref f∧fo f sp∧cA sp [] E t σ H1 Q
theorem nL {X:Cx}{k:Nat}{fo:Addr→Sp→Prop}{pos:Pos}{fe e:Expr}{es:List Expr}{tf:TE}{t:TA}{E:XK}(D:∀ f sp,fo f sp→DefV X.prog X.w X.K X.mg X.base k f sp)(hr:Room k X.A)(hx:iR (mW X.prog X.w) X E)(hf:PE X fe tf)(ha:PA X (e :: es) t)
  (hev:eval (.Call fe (e :: es) [] pos) X.env=(do callWith pos (← eval fe X.env) [] (backTo pos (starEach (e :: es) X.env)) (backToKw pos (keywordEach [] X.env))):=by rfl)
  (he:starEach (e :: es) X.env=(false,eval e X.env) :: starEach es X.env:=by rfl) (hpl:(backTo pos (starEach es X.env)).any (·.1)=false:=by rfl) :
  PE X (.Call fe (e :: es) [] pos) (rO fo E tf t):=by
 intro pins s σ H Q I h
 rw [hev]
 refine wpAny_bind (thn (hf pins s σ H _ I h) fun v s1 ⟨x,H1,I1,rx,f,sp,ex,hfo,q⟩=>?_)
 subst ex
 obtain rfl:v=Value.ref f:=rx
 obtain ⟨fd,ps,F,hk,hb⟩:=(D f sp hfo).ex
 refine PySem.W.callWith_K (h₀:=X.base) I.ok.mod.kin hk (thn (ha pos pins s1 σ H1 _ I1 q) fun us s2 ⟨vs,H2,I2,r,q2⟩=>⟨I2.kIn,?_⟩) he hpl
 exact yW F hr hb .nil hx I2 r q2
section
variable {X:Cx}
noncomputable def rJ (r r' r'':R2) (ta tb tc td:TE):TE:=fun σ H Q=>ta σ H fun x H1=>tb σ H1 fun y H2=>r x y H2 fun z H3=>∃ k,z = .bl k ∧
 (if k=true then tc σ H3 fun w' H4=>r' y w' H4 fun z2 H5=>∃ k2,z2 = .bl k2∧(if k2=true then td σ H5 fun u' H6=>r'' w' u' H6 Q else Q (.bl false) H5) else Q (.bl false) H3)
theorem vI {a b c d:Expr}{ta tb tc td:TE}{pos:Pos}{op op' op'':CmpOp}{r r' r'':R2}(ho:OpR X (compareOp op) r)(ho':OpR X (compareOp op') r')(ho'':OpR X (compareOp op'') r'')(ha:PE X a ta)(hb:PE X b tb)(hc:PE X c tc)(hd:PE X d td)
  (hm:lastMarks [op,op',op''] [b,c,d]=false:=by with_unfolding_all rfl):PE X (.Compare a [op,op',op''] [b,c,d] pos) (rJ r r' r'' ta tb tc td):=by
 intro pins s σ H Q I h
 refine Compare_chain (thn (ha pins s σ H _ I h) fun v s1 ⟨x,H1,I1,r1,q1⟩=>chain_link (thn (hb pins s1 σ H1 _ I1 q1) fun u s2 ⟨y,H2,I2,r2,q2⟩=>
  thn (ho pins s2 σ H2 x y v u _ I2 r1 r2 q2) fun d s3 ⟨z,H3,I3,r3,k,e,q3⟩=>?_)) hm
 subst e
 cases r3
 refine wpAny_truthy_bool ?_
 cases k with
 | false=>exact ite_ff ⟨.bl false,H3,I3,rfl,q3⟩
 | true=>
  refine ite_tt (chain_link (thn (hc pins s3 σ H3 _ I3 q3) fun w' s4 ⟨z',H4,I4,r4,q4⟩=>thn (ho' pins s4 σ H4 y z' u w' _ I4 r2 r4 q4) fun d' s5 ⟨z2,H5,I5,r5,k2,e2,q5⟩=>?_))
  subst e2
  cases r5
  refine wpAny_truthy_bool ?_
  cases k2 with
  | false=>exact ite_ff ⟨.bl false,H5,I5,rfl,q5⟩
  | true=>exact ite_tt (chain_last (thn (hd pins s5 σ H5 _ I5 q5) fun w2 s6 ⟨z3,H6,I6,r6,q6⟩=>ho'' pins s6 σ H6 z' z3 w' w2 Q I6 r4 r6 q6))
noncomputable def aCd:V→List V→Hp→VK→Prop:=fun x vs H Q=>∃ (l:Addr) (xs:List V) (y:V),x = .ref l∧vs=[y]∧H l=some (.lst xs)∧lU y=true∧xs.all lU=true∧Q (.int ((xs.countP fun z=>eqV z y):Nat)) H
theorem tR {y:V}:∀ {xs:List V} {us:List Value},Vals xs us→xs.all lU=true→us.countP (eqU y)=xs.countP fun z=>eqV z y
 | _,_, .nil,_=>rfl
 | x :: xs,u :: us, .cons r t,f=>by
  rw [List.all_cons,Bool.and_eq_true] at f
  rw [List.countP_cons,List.countP_cons,tR t f.2,uQ r f.1]
theorem aBC:MtM X "list.count" aCd:=by
 intro pins s σ H x vs v us Q I rx rv h
 obtain ⟨l,xs,y,rfl,rfl,hH,fy,fs,q⟩:=h
 cases rx
 obtain ⟨u,rfl,ru⟩:=rv.one
 obtain ⟨zz,its,n,r,hl,e⟩:=I.lstM hH
 refine call_meets F.slot_list_count ⟨_,e,rfl⟩ F.entry_list_count (F.args_list_count_2 _ _)
  (SeqAt.list_countAt l its.toArray n none #[] u (eqU y)) ⟨e,fun w hw=>nR ru fy r fs w (by simpa using hw),?_⟩
 rw [show (its.toArray.toList.countP (eqU y))=xs.countP fun z=>eqV z y from tR r fs]
 exact ⟨.int _,H,I.tok _,⟨_,rfl⟩,q⟩
end
end L2
namespace L2
open PySem PySem.Spec PyProof.Rows
open PySem.SeqAt PySem.MeetsSeq3
theorem vQ (l b:Addr)(items items2:Array Value)(n n2:Nat)(dd dd2:Option Addr)(sl sl2:Array (Option Value))(hsz:items.size=items2.size)(e lt:Nat→Bool)(k:Nat) :
  ∀ i:Nat,items.size - i=k→Meets (Builtin.«list.__eq__.loop» ⟨[.ref l, .ref b,rawInt i,rawInt 0],[]⟩)
   (fun A R s=>s.heap.get? l=some { cls := .type "list",dict:=dd,data := .seq items n,slots:=sl }∧s.heap.get? b=some { cls := .type "list",dict:=dd2,data := .seq items2 n2,slots:=sl2 } ∧
    (∀ j (h1:j<items.size) (h2:j<items2.size),EqA A.in1 s items[j] items2[j] (e j))∧(∀ j (h1:j<items.size) (h2:j<items2.size),e j=false→LtA A.in1 s items[j] items2[j] (lt j)) ∧
    R (.ok (.ret (.bool (qE false (((List.range items.size).drop i).map fun j=>(e j,lt j)))))) s):=by
 induction k with
 | zero=>
  intro i hk prog w A R s h
  obtain ⟨hp,g,d,tk,os⟩:=s;obtain ⟨hl,hb,he,hlt',h⟩:=h
  wp_walk using AutoSeq1.wpAny_loadPart' hl,AutoSeq1.wpAny_loadPart' hb
  have hi1:items[((i:Nat):Int).toNat]?=none:=by simp;omega
  have hi2:items2[((i:Nat):Int).toNat]?=none:=by simp;omega
  have hd:(List.range items.size).drop i=[]:=by simp;omega
  rw [hd] at h
  rw [hi1,hi2]
  wp_walk using AutoSeq1.wpAny_loadPart' hl,AutoSeq1.wpAny_loadPart' hb
  show R (.ok (.ret (.bool (decide (items.size<items2.size))))) _
  rw [hsz]
  simpa [qE] using h
 | succ k ih=>
  intro i hk prog w A R s h
  obtain ⟨hp,g,d,tk,os⟩:=s;obtain ⟨hl,hb,he,hlt',h⟩:=h
  wp_walk using AutoSeq1.wpAny_loadPart' hl,AutoSeq1.wpAny_loadPart' hb
  have hlt:i<items.size:=by omega
  have hlt2:i<items2.size:=by omega
  have hi1:items[((i:Nat):Int).toNat]?=some items[i]:=by simp [hlt]
  have hi2:items2[((i:Nat):Int).toNat]?=some items2[i]:=by simp [hlt2]
  have hd:(List.range items.size).drop i=i :: (List.range items.size).drop (i+1):=by simp [List.drop_eq_getElem_cons,hlt]
  have hc:((i:Int)+1)=((i+1:Nat):Int):=by push_cast;rfl
  rw [hd,List.map_cons,qE] at h
  rw [hi1,hi2]
  refine wpAny_bind (he i hlt hlt2 prog w _ _ ?_)
  cases hb':e i with
  | true=>
   rw [hb',if_pos rfl] at h
   wp_walk
   rw [hc]
   exact ⟨plainId_quiet plain_eq_loop _,codeAny_builtin entry_eq_loop (by
    rw [Around.under_plainId plain_eq_loop _]
    exact ih (i+1) (by omega) prog w A R _ ⟨hl,hb,he,hlt',h⟩)⟩
  | false=>
   rw [hb',if_neg Bool.false_ne_true] at h
   have hl':∀ {E:Value→Shared→Prop} {Q:Value→Shared→Prop},Q (.bool (lt i)) ⟨hp,g,d,tk,os⟩→wpAny (model prog w) A.in1 (richCompare .Lt items[i] items2[i]) Q E ⟨hp,g,d,tk,os⟩:=fun {E Q}=>hlt' i hlt hlt2 hb' prog w E Q
   wp_walk using AutoSeq1.wpAny_loadPart' hl,AutoSeq1.wpAny_loadPart' hb
   rw [hi1,hi2]
   wp_walk using hl'
   exact h
theorem vF (l b:Addr)(items items2:Array Value)(n n2:Nat)(dd dd2:Option Addr)(sl sl2:Array (Option Value))(hsz:items.size=items2.size)(e lt:Nat→Bool) :
  Meets (Builtin.«list.__lt__» ⟨[.ref l, .ref b],[]⟩)
   (fun A R s=>s.heap.get? l=some { cls := .type "list",dict:=dd,data := .seq items n,slots:=sl }∧s.heap.get? b=some { cls := .type "list",dict:=dd2,data := .seq items2 n2,slots:=sl2 } ∧
    (∀ j (h1:j<items.size) (h2:j<items2.size),EqA A.in1 s items[j] items2[j] (e j))∧(∀ j (h1:j<items.size) (h2:j<items2.size),e j=false→LtA A.in1 s items[j] items2[j] (lt j)) ∧
    R (.ok (.ret (.bool (qE false ((List.range items.size).map fun j=>(e j,lt j)))))) s):=by
 intro prog w A R s h
 obtain ⟨hp,g,d,tk,os⟩:=s;obtain ⟨hl,hb,he,hlt,h⟩:=h
 have f3:=AutoSeq1.sub_list_list
 wp_walk using AutoSeq1.wpAny_loadPart' hl,AutoSeq1.wpAny_loadPart' hb
 exact ⟨plainId_quiet plain_eq_loop _,codeAny_builtin entry_eq_loop (by
  rw [Around.under_plainId plain_eq_loop _]
  exact vQ l b items items2 n n2 dd dd2 sl sl2 hsz e lt _ 0 rfl prog w A R _ ⟨hl,hb,he,hlt,h⟩)⟩
theorem rP:∀ {a b x y:List Int},a.length=b.length→a≠b→cO (a++x) (b++y)=cO a b
 | [],[],_,_,_,h=>absurd rfl h
 | [],_ :: _,_,_,h,_=>by cases h
 | _ :: _,[],_,_,h,_=>by cases h
 | a :: r,b :: q,x,y,h,hn=>by
  rw [List.cons_append,List.cons_append,cO,cO]
  by_cases e:a=b
  ·rw [if_pos e,if_pos e]
   exact rP (by simpa using h) fun z=>hn (by rw [e,z])
  ·rw [if_neg e,if_neg e]
theorem rY:∀ {a x y:List Int},cO (a++x) (a++y)=cO x y
 | [],_,_=>rfl
 | a :: r,x,y=>by rw [List.cons_append,List.cons_append,cO,if_pos rfl];exact rY
theorem zU {r q:List Int}:eqL (r.map Dt.int) (q.map Dt.int)=decide (r=q):=by
 by_cases h:r=q
 ·subst h;rw [decide_eq_true rfl,eV]
 ·rw [decide_eq_false h]
  cases c:eqL (r.map Dt.int) (q.map Dt.int) with
  | false=>rfl
  | true=>exact absurd (iJ c) h
theorem pI:∀ {R S:List (List Int)},R.length=S.length→(∀ r∈R,r.length=2)→(∀ r∈S,r.length=2) →
  qE false ((List.range R.length).map fun j=>(decide (R.getD j []=S.getD j []),cO (R.getD j []) (S.getD j [])))=cO R.flatten S.flatten
 | [],[],_,_,_=>rfl
 | [],_ :: _,h,_,_=>by cases h
 | _ :: _,[],h,_,_=>by cases h
 | r :: R,s :: S,h,h1,h2=>by
  have ih:=pI (R:=R) (S:=S) (by simpa using h) (fun x hx=>h1 x (List.mem_cons_of_mem _ hx)) (fun x hx=>h2 x (List.mem_cons_of_mem _ hx))
  rw [List.length_cons,List.range_succ_eq_map,List.map_cons,List.map_map,qE,List.flatten_cons,List.flatten_cons]
  show (if decide (r=s)=true then qE false ((List.range R.length).map fun j=>(decide (R.getD j []=S.getD j []),cO (R.getD j []) (S.getD j []))) else cO r s)=cO (r++R.flatten) (s++S.flatten)
  rw [ih]
  by_cases e:r=s
  ·subst e
   rw [if_pos (decide_eq_true rfl),rY]
  ·rw [if_neg (fun z=>e (of_decide_eq_true z)),rP (by rw [h1 r (by simp),h2 s (by simp)]) e]
theorem xI {h:Heap}{vs:List Value}{R S:List (List Int)}(a:TupsAt h vs R)(b:TupsAt h vs S):R=S:=by
 refine List.ext_getElem (by rw [← a.1,← b.1]) fun i h1 h2=>?_
 obtain ⟨x,us,e1,t1,i1⟩:=a.2 i _ (List.getElem?_eq_getElem h1)
 obtain ⟨y,ws,e2,t2,i2⟩:=b.2 i _ (List.getElem?_eq_getElem h2)
 rw [e1] at e2
 cases e2
 obtain ⟨o,g1,_,n,g2⟩:=t1
 obtain ⟨o',g3,_,m,g4⟩:=t2
 rw [g1] at g3
 cases g3
 rw [g2] at g4
 have e5:us=ws∧n=m:=by simpa using g4
 obtain ⟨rfl,_⟩:=e5
 exact nX i1 i2
section
variable {A:Around}{s:Shared}{l b:Addr}{us vs:List Value}{R S:List (List Int)}
theorem oG (a:TupsAt s.heap us R){j:Nat}(h:j<us.length):∃ x ws,us[j] = .ref x∧IsTup s.heap x ws.toArray∧IntsAre ws (R.getD j []):=by
 have hj:j<R.length:=by rw [← a.1];exact h
 obtain ⟨x,ws,e1,t1,i1⟩:=a.2 j _ (List.getElem?_eq_getElem hj)
 rw [List.getElem?_eq_getElem h] at e1
 exact ⟨x,ws,Option.some.inj e1,t1,by rw [List.getD_eq_getElem?_getD,List.getElem?_eq_getElem hj];exact i1⟩
theorem rT (hu:A.units<cLine)(a:TupsAt s.heap us R)(c:TupsAt s.heap vs S){j:Nat}(h1:j<us.length)(h2:j<vs.length):EqA A s us[j] vs[j] (decide (R.getD j []=S.getD j [])):=by
 obtain ⟨x,ws,e1,t1,i1⟩:=oG a h1
 obtain ⟨y,zs,e2,t2,i2⟩:=oG c h2
 rw [e1,e2,← zU]
 exact aAe hu t1 t2 i1 i2
theorem xV (hu:A.units+2<cLine)(hl:s.heap.IsList l us.toArray)(hb:s.heap.IsList b vs.toArray)(a:TupsAt s.heap us R)(c:TupsAt s.heap vs S)(hz:R.length=S.length):EqA A s (.ref l) (.ref b) (decide (R=S)):=by
 by_cases hlb:l=b
 ·subst hlb
  have e:us=vs:=by
   obtain ⟨o,e1,_,n,e2⟩:=hl
   obtain ⟨o',e3,_,m,e4⟩:=hb
   rw [e1] at e3
   cases e3
   rw [e2] at e4
   have e5:us=vs∧n=m:=by simpa using e4
   exact e5.1
  subst e
  rw [decide_eq_true (xI a c)]
  exact EqAt.same _
 ·have hsz:us.toArray.size=vs.toArray.size:=by simp;rw [a.1,c.1,hz]
  have rc:=RcAt.lists (A:=A) (e:=fun j=>decide (R.getD j []=S.getD j [])) hl hb hsz (by omega) (fun j g1 g2=>by
   have g1:j<us.length:=by simpa using g1
   have g2:j<vs.length:=by simpa using g2
   have:EqAt A.in1 s us[j] vs[j] _:=rT (A:=A.in1) (by show A.units+1<cLine;omega) a c g1 g2
   simpa using this)
  have e1:((List.range us.toArray.size).all fun j=>decide (R.getD j []=S.getD j []))=decide (R=S):=by
   rw [List.size_toArray,a.1]
   by_cases e:R=S
   ·rw [decide_eq_true e]
    exact List.all_eq_true.mpr fun j _=>decide_eq_true (by rw [e])
   ·rw [decide_eq_false e]
    cases q:(List.range R.length).all fun j=>decide (R.getD j []=S.getD j []) with
    | false=>rfl
    | true=>
     exfalso
     refine e (List.ext_getElem hz fun i h1 h2=>?_)
     have:=of_decide_eq_true (List.all_eq_true.mp q i (List.mem_range.mpr h1))
     rw [List.getD_eq_getElem?_getD,List.getD_eq_getElem?_getD,List.getElem?_eq_getElem h1,List.getElem?_eq_getElem h2] at this
     exact this
  rw [e1] at rc
  exact EqAt.of_refs hlb rc
theorem wW (hu:A.units+3<cLine)(hl:s.heap.IsList l us.toArray)(hb:s.heap.IsList b vs.toArray)(a:TupsAt s.heap us R)(c:TupsAt s.heap vs S)(hz:R.length=S.length)(h1:∀ r∈R,r.length=2)(h2:∀ r∈S,r.length=2):LtA A s (.ref l) (.ref b) (cO R.flatten S.flatten):=by
 intro prog w E Q q
 obtain ⟨⟨oc,od,odt,osl⟩,e1,c1,n1,d1⟩:=hl
 obtain ⟨⟨pc,pd,pdt,psl⟩,e2,c2,n2,d2⟩:=hb
 simp only at c1 d1 c2 d2
 subst c1 d1 c2 d2
 have hsz:us.toArray.size=vs.toArray.size:=by simp;rw [a.1,c.1,hz]
 refine richCompare_meets_room (op := .Lt) ⟨_,e1,rfl⟩ ⟨_,e2,rfl⟩ F.slot_list_lt F.entry_list_lt (F.args_list_lt_2 _ _) (vF l b us.toArray vs.toArray n1 n2 od pd osl psl hsz (fun j=>decide (R.getD j []=S.getD j [])) (fun j=>cO (R.getD j []) (S.getD j []))) ⟨e1,e2,fun j g1 g2=>?_,fun j g1 g2 _=>?_,?_⟩ (by omega)
 ·have g1:j<us.length:=by simpa using g1
  have g2:j<vs.length:=by simpa using g2
  have:=rT (A:=A.in1) (by show A.units+1<cLine;omega) a c g1 g2
  simpa using this
 ·have g1:j<us.length:=by simpa using g1
  have g2:j<vs.length:=by simpa using g2
  obtain ⟨x,ws,e1,t1,i1⟩:=oG a g1
  obtain ⟨y,zs,e2,t2,i2⟩:=oG c g2
  have:us.toArray[j] = .ref x:=by simpa using e1
  rw [this]
  have:vs.toArray[j] = .ref y:=by simpa using e2
  rw [this]
  exact fun prog w E Q h=>uT (by show A.units+1<cLine;omega) t1 t2 i1 i2 h
 ·refine ⟨fun z=>(by cases z),?_⟩
  rw [List.size_toArray,a.1,pI hz h1 h2]
  exact q
theorem vW {prog:Program}{w:World}{E:Value→Shared→Prop}{c d:Addr}{x y:Int}{t1 t3:Tok}{Q:Value→Shared→Prop}(hu:A.units+10<cLine)(p1:IsTup s.heap l [Value.int x t1, .ref c].toArray)(p2:IsTup s.heap b [Value.int y t3, .ref d].toArray)(o1:s.heap.IsList c us.toArray)(o2:s.heap.IsList d vs.toArray)
  (w1:TupsAt s.heap us R) (w2:TupsAt s.heap vs S) (hz:R.length=S.length) (h1:∀ r∈R,r.length=2) (h2:∀ r∈S,r.length=2) (h:Q (.bool (cO (x :: R.flatten) (y :: S.flatten))) s):wpAny (model prog w) A (richCompare .Lt (.ref l) (.ref b)) Q E s:=by
 obtain ⟨⟨oc,od,odt,osl⟩,e1,c1,n1,d1⟩:=p1
 obtain ⟨⟨pc,pd,pdt,psl⟩,e2,c2,n2,d2⟩:=p2
 subst c1 d1 c2 d2
 refine richCompare_meets_room (op := .Lt) ⟨_,e1,rfl⟩ ⟨_,e2,rfl⟩ F.slot_tuple_lt F.entry_tuple_lt (F.args_tuple_lt_2 _ _) (uN l b _ _ n1 n2 od pd osl psl [((x == y),decide (x<y)),(decide (R=S),cO R.flatten S.flatten)]) ⟨e1,e2,?p,?g⟩ (by omega)
 case p=>
  refine .cons (fun prog w E Q h=>wpAny_eqBool_int h) (fun _ prog w E Q h=>kP h) (.cons ?_ (fun _=>?_) .nil)
  ·exact xV (by show A.units+1+2<cLine;omega) o1 o2 w1 w2 hz
  ·exact wW (by show A.units+1+3<cLine;omega) o1 o2 w1 w2 hz h1 h2
 case g=>
  refine ⟨fun z=>(by cases z),?_⟩
  have e:qE (decide (([Value.int x t1,Value.ref c].toArray).size<([Value.int y t3,Value.ref d].toArray).size)) [((x == y),decide (x<y)),(decide (R=S),cO R.flatten S.flatten)]=cO (x :: R.flatten) (y :: S.flatten):=by
   rw [qE,cO]
   by_cases hxy:x=y
   ·rw [if_pos (by simpa using hxy),if_pos hxy,qE,qE]
    by_cases hq:R=S
    ·rw [if_pos (decide_eq_true hq),hq,gD]
     rfl
    ·rw [if_neg (fun z=>hq (of_decide_eq_true z))]
   ·rw [if_neg (by simpa using hxy),if_neg hxy]
  rw [e]
  exact h
end
noncomputable def aCf (K:PySem.W.Frag) (H:Hp) (k:Nat) (xs:List V) (T:List (Int × List (List Int))):Prop:=xs.length=T.length∧∀ (i:Nat) (p:Int × List (List Int)),T[i]?=some p→p.2.length=k∧(∀ r∈p.2,r.length=2)∧∃ b c ys,xs[i]?=some (.ref b)∧SqT K H b [.int p.1, .ref c]∧SqL K H c ys∧Rows K H ys p.2
noncomputable def aAm (K:PySem.W.Frag):List V→Hp→VK→Prop:=fun vs H Q=>∃ (a:Addr) (k:Nat) (xs:List V) (T:List (Int × List (List Int))),vs=[.ref a]∧Sq K H a xs∧aCf K H k xs T∧T≠[]∧∀ (b:Addr) (p:Int × List (List Int)) (i:Nat),T[i]?=some p→xs[i]?=some (.ref b)→(∀ q∈T,p.1≤q.1)→Q (.ref b) H
theorem qC {X:Cx}{pins:List (Addr × Obj)}{σ:St}{H:Hp}{s:Shared}(I:Inv X pins σ H s){ys:List V}{its:List Value}{R:List (List Int)}(r:Vals ys its)(hr:Rows X.K H ys R):TupsAt s.heap its R:=by
 refine ⟨by rw [← r.length,hr.1],fun i row e=>?_⟩
 obtain ⟨b,e1,e2⟩:=hr.2 i row e
 obtain ⟨u,hu,ru⟩:=r.get e1
 obtain rfl:u=Value.ref b:=ru
 obtain ⟨ws,w1,k1,_⟩:=I.tuple e2
 exact ⟨b,ws,hu,k1,eN w1⟩
theorem vG {X:Cx}{k0:Nat}(hr:Room k0 X.A)(hc:X.calm=true):CallR X (.builtin "min") (aAm X.K):=by
 intro pins s σ H vs us Q I r ⟨a,k,xs,T,e,hq,hR,hne,q⟩
 subst e
 obtain ⟨u,rfl,ru⟩:=r.one
 obtain rfl:u=Value.ref a:=ru
 refine mU (iQ (I.ok.hd hc) I hq fun its It fp wr S s2 rv hz W st hf hI=>?g)
 case g=>
 have hl:its.length=T.length:=by rw [← rv.length,hR.1]
 have hpos:0<T.length:=List.length_pos_iff.mpr hne
 have item:∀ (i:Nat) (v:Value),its[i]?=some v→∃ b c ys p,v = .ref b∧xs[i]?=some (.ref b)∧T[i]?=some p∧p.2.length=k∧(∀ r∈p.2,r.length=2)∧SqT X.K H b [.int p.1, .ref c]∧SqL X.K H c ys∧Rows X.K H ys p.2:=fun i v hv=>by
  obtain ⟨x,hx,rx⟩:=rv.getR hv
  have hi:i<T.length:=by rw [← hR.1];exact (List.getElem?_eq_some_iff.mp hx).1
  obtain ⟨e0,e5,b,c,ys,e1,e2,e3,e4⟩:=hR.2 i _ (List.getElem?_eq_getElem hi)
  rw [e1] at hx
  cases hx
  exact ⟨b,c,ys,_,rx,e1,List.getElem?_eq_getElem hi,e0,e5,e2,e3,e4⟩
 let key:Nat→List Int:=fun i=>(T.getD i (0,[])).1 :: (T.getD i (0,[])).2.flatten
 have keyE:∀ {i:Nat} {p:Int × List (List Int)},T[i]?=some p→key i=p.1 :: p.2.flatten:=fun {i p} h=>by
  show (T.getD i (0,[])).1 :: (T.getD i (0,[])).2.flatten=_
  rw [List.getD_eq_getElem?_getD,h]
  rfl
 refine ⟨It,fp,wr,its.length,_,S,fun i j=>cO (key i) (key j),fun h=>∀ b o,b∉wr→s2.heap.get? b=some o→h.get? b=some o,rfl,W,st,hf,by omega,fun b o _ e=>e,fun z hz0 h h' k1 k2 b o bw e=>k2 b o bw (fun q0=>Nat.not_lt.mpr hz0 (q0 ▸ Heap.lt_size e)) (k1 b o bw e),fun i j vi vj s' Q' E' kp hi hj hQ'=>?g,fun v h' tk hv hk=>?h⟩
 case g=>
  obtain ⟨b1,c1,ys1,p1,rfl,_,t1,z1,y1,q1,l1,r1⟩:=item i vi hi
  obtain ⟨b2,c2,ys2,p2,rfl,_,t2,z2,y2,q2,l2,r2⟩:=item j vj hj
  have I':=hI s'.heap s'.toks kp
  obtain ⟨us1,v1,g1,_⟩:=I'.tuple q1
  obtain ⟨us2,v2,g2,_⟩:=I'.tuple q2
  obtain ⟨ws1,w1,k1,_⟩:=I'.list l1
  obtain ⟨ws2,w2,k2,_⟩:=I'.list l2
  obtain ⟨u1,u2,rfl,⟨t1',rfl⟩,ry2⟩:=aAd v1
  obtain ⟨u3,u4,rfl,⟨t3',rfl⟩,ry4⟩:=aAd v2
  obtain rfl:u2=Value.ref c1:=ry2
  obtain rfl:u4=Value.ref c2:=ry4
  refine vW (A:=X.A.in1) (us:=ws1) (vs:=ws2) (by have:=hr.un;show X.A.units+1+10<cLine;omega) g1 g2 k1.isList k2.isList (qC I' w1 r1) (qC I' w2 r2) (by rw [z1,z2]) y1 y2 ?g
  case g=>
  have hQ2:Q' (Value.bool (cO (key i) (key j))) s':=hQ'
  rw [keyE t1,keyE t2] at hQ2
  exact hQ2
 case h=>
  obtain ⟨b,c,ys,p,rfl,hx,t1,z1,y1,q1,l1,r1⟩:=item _ v hv
  refine ⟨.ref b,H,hI h' tk hk,rfl,q b p _ t1 hx fun q0 hq0=>?g⟩
  case g=>
  obtain ⟨j,hj,rfl⟩:=List.getElem_of_mem hq0
  have:=eZ (bt:=fun i j=>cO (key i) (key j)) (fun i=>gD _) (fun i j k=>eO) (its.length - 1) j (by omega)
  have g:cO (key j) (key (argBest (fun i j=>cO (key i) (key j)) (its.length - 1)))=false:=this
  rw [keyE (List.getElem?_eq_getElem hj),keyE t1,cO] at g
  by_cases c:T[j].1=p.1
  ·omega
  ·rw [if_neg c] at g
   have:=of_decide_eq_false g
   omega
theorem sZ {X:Cx}{K:PySem.W.Frag}{k:Nat}(hK:X.K=K)(hr:Room k X.A)(hc:X.calm=true):CallR X (.builtin "min") (aAm K):=by subst hK;exact vG hr hc
end L2
namespace K45
open PySem L2
noncomputable def top (i:Nat):Stmt:=PySem.Challenge.pw_homeround_k45_pairings_told.main.body.getD i (.Pass ⟨0,0,0,0⟩)
section
variable {P:Program}{w:World}{K:PySem.W.Frag}{mg:Str→Option Value}{base:Heap}{f:Addr}{fd:FuncData}
theorem mX:bP ["table","many"] ["table"] (aK (top 11)):=⟨rfl,rfl,rfl,by decide +kernel,rfl,by decide +kernel,by decide +kernel⟩
noncomputable def oV (K:PySem.W.Frag)   : TS:=(aR (bW (tCB (jU K) (aC (aD 0) aS)) (aN 1)) (aR (eX (tCB (aCV K) (aC (kX [none,none,some 0] (jX (aC (aD 1) aS)) (aN 0) [] fun acc=>(qN (jX (aC (aD 0) aS)) (aN 1) (jR [] (jT (tOp (gF K) (tOp (aX K) (tOp (aX K) (aD 2) (aD 0)) (aD 1)) (tOp (aX K) (tOp (aX K) (aD 2) (aD 1)) (aD 0))) acc)))) aS))) aL))
theorem sQ (F:Fun K "is_even" "is_even" (top 11) f fd)(B:lQ mg)      {sp:Sp}(len:∀ vs H Q E,sp vs H Q E→vs.length=1)
  (rd:∀ vs H Q E,sp vs H Q E→oV K   { nx:=fun _ H'=>Q .non H',rt:=Q } (bQ ["table","many"] vs) H):FnOk P w K mg base CX0 1 f fd ["table"] sp:=by
 refine F.ok mX len (fun cdv A outer s H vs Q E hr h=>⟨_,?_,rd vs H Q E h⟩)
 have nd:=mX.nd
 exact (@aA _ _ _ _ _ (@bB _ _ 1 _ _ _ _ nd rfl (Or.inl rfl) (aM (aV (K:=K) rfl) rfl B.len cH (@aB _ _ _ _ _ _ (pv 0) aE)) (by rfl) (by first | exact .inl rfl | exact .inr rfl | assumption)) (@aA _ _ _ _ _ (@bO _ _ _ _ (aM (vT (K:=K) rfl rfl) rfl B.all aBf (dG (lM (N':=["i","j","table"]) (ix:=[none,none,some 0]) rfl rfl rfl (cM rfl B.range (@aB _ _ _ _ _ _ (pv 1) aE)) (fun _ _ _=>(bR (i:=0) (show (["i","j","table"]:List Str).Nodup from by decide +kernel) rfl (Or.inl rfl))) (fun _ _ _ => .nil) (fun _ _ _ _=>(aAl rfl rfl rfl (fun _ h=>by first | (cases h;rfl) | cases h) (cM rfl B.range (@aB _ _ _ _ _ _ (pv 0) aE)) (bR (i:=1) (show (["i","j","table"]:List Str).Nodup from by decide +kernel) rfl (Or.inl rfl)) .nil (gA rfl (iY (dY (K:=K) rfl hr) (@aZ _ _ _ _ _ _ _ (aO (K:=K) rfl) (@aZ _ _ _ _ _ _ _ (aO (K:=K) rfl) (pv 2) (pv 0) (fun _ _=>rfl)) (pv 1) (fun _ _=>rfl)) (@aZ _ _ _ _ _ _ _ (aO (K:=K) rfl) (@aZ _ _ _ _ _ _ _ (aO (K:=K) rfl) (pv 2) (pv 1) (fun _ _=>rfl)) (pv 0) (fun _ _=>rfl)) (cC _)) rfl)))) aE))) aH))
theorem fK:bP ["table"] ["table"] (aK (top 13)):=⟨rfl,rfl,rfl,by decide +kernel,rfl,by decide +kernel,by decide +kernel⟩
noncomputable def fR (K:PySem.W.Frag) (C_NotEven:Addr) (E:XK) (gJ:Sp):TS:=(aR (eM (sA (tB (cA gJ [] E0 (aC (aD 0) aS)))) (aR (uK C_NotEven E) aL) aL) aL)
theorem kB (F:Fun K "refuse_uneven" "refuse_uneven" (top 13) f fd)(B:lQ mg)  {C_NotEven:Addr}(GC_NotEven:mg "NotEven" = some (.ref C_NotEven))(XC_NotEven:PySem.W.excIn K C_NotEven aBF "ValueError.__new__" = true){gJ:Sp}(lN:Def P w K mg base "is_even" 1 ["table"] gJ)  {sp:Sp}(len:∀ vs H Q E,sp vs H Q E→vs.length=1)
  (rd:∀ vs H Q E,sp vs H Q E→fR K C_NotEven E gJ { nx:=fun _ H'=>Q .non H',rt:=Q } (bQ ["table"] vs) H):FnOk P w K mg base (mW P w) 2 f fd ["table"] sp:=by
 refine F.okX fK len (fun cdv A outer s H vs Q E hr h=>⟨_,?_,rd vs H Q E h⟩)
 have nd:=fK.nd
 exact (@aA _ _ _ _ _ (@dL _ _ _ _ _ _ _ _ (PT.nox (fJ (fI (bS (lN.mono (by decide)) hr rfl (@aB _ _ _ _ _ _ (pv 0) aE))))) (@aA _ _ _ _ _ (uP (K:=K) rfl tE rfl rfl GC_NotEven XC_NotEven) aH) aH) aH)
theorem mZ:bP ["table","some"] ["table","some"] (aK (top 14)):=⟨rfl,rfl,rfl,by decide +kernel,rfl,by decide +kernel,by decide +kernel⟩
noncomputable def oQ (K:PySem.W.Frag)  (E:XK) (bD:Sp) (cP:Sp):TS:=(aR (nP (cA cP [] E (aC (aD 0) aS))) (aR (eX (cA bD [] E0 (aC (aD 0) (aC (aD 1) aS)))) aL))
theorem tL (F:Fun K "pairing" "pairing" (top 14) f fd)(B:lQ mg)    {bD:Sp}(cJ:Def P w K mg base "least_pairing" 6 ["table","some"] bD){cP:Sp}(dH:DefX P w K mg base "refuse_uneven" 2 ["table"] cP){sp:Sp}(len:∀ vs H Q E,sp vs H Q E→vs.length=2)
  (rd:∀ vs H Q E,sp vs H Q E→oQ K  E bD cP { nx:=fun _ H'=>Q .non H',rt:=Q } (bQ ["table","some"] vs) H):FnOk P w K mg base (mW P w) 7 f fd ["table","some"] sp:=by
 refine F.okX mZ len (fun cdv A outer s H vs Q E hr h=>⟨_,?_,rd vs H Q E h⟩)
 have nd:=mZ.nd
 exact (@aA _ _ _ _ _ (fO (qX (dH.mono (by decide)) hr rfl tO (@aB _ _ _ _ _ _ (pv 0) aE))) (@aA _ _ _ _ _ (PS.nox (@bO _ _ _ _ (bS (cJ.mono (by decide)) hr rfl (@aB _ _ _ _ _ _ (pv 0) (@aB _ _ _ _ _ _ (pv 1) aE))))) aH))
theorem fL:bP ["table","some","first","tried","at","rest","pairs"] ["table","some"] (aK (top 15)):=⟨rfl,rfl,rfl,by decide +kernel,rfl,by decide +kernel,by decide +kernel⟩
noncomputable def fY (K:PySem.W.Frag)  (bD:Sp):TS:=(aR (eM (cB (tOp (gF K) (aD 1) (qF aS))) (aR (eX (qF (aC (tC (.int 0)) (aC (nW aS) aS)))) aL) aL) (aR (bW (tOp (aX K) (aD 1) (tC (.int 0))) (aN 2)) (aR (bW (nW aS) (aN 3)) (aR (qN (wS (aC (tC (.int 1)) (aC (tCB (jU K) (aC (aD 1) aS)) aS))) (aN 4) (aR (bW (cA bD [] E0 (aC (aD 0) (aC (tOp (bJ K) (tSl (mH K) (aD 1) (dF (tC (.int 1))) (dF (aD 4))) (tSl (mH K) (aD 1) (dF (tOp (bJ K) (aD 4) (tC (.int 1)))) cI)) aS))) (aBv K 2 (rB (aN 5) (rB (aN 6) aBK)))) (aR (nP (tBM K "list" kN (aD 3) (aC (qF (aC (tOp (bJ K) (tOp (aX K) (tOp (aX K) (aD 0) (aD 2)) (tOp (aX K) (aD 1) (aD 4))) (aD 5)) (aC (tOp (bJ K) (nW (aC (qF (aC (aD 2) (aC (tOp (aX K) (aD 1) (aD 4)) aS))) aS)) (aD 6)) aS))) aS))) aL))) (aR (eX (tCB (aAm K) (aC (aD 3) aS))) aL)))))
theorem jS (F:Fun K "least_pairing" "least_pairing" (top 15) f fd)(B:lQ mg)    {k:Nat}(hk:1≤k){bD:Sp}(cJ:Def P w K mg base "least_pairing" k ["table","some"] bD)  {sp:Sp}(len:∀ vs H Q E,sp vs H Q E→vs.length=2)
  (rd:∀ vs H Q E,sp vs H Q E→fY K  bD { nx:=fun _ H'=>Q .non H',rt:=Q } (bQ ["table","some","first","tried","at","rest","pairs"] vs) H):FnOk P w K mg base CX0 (k+1) f fd ["table","some"] sp:=by
 refine F.ok fL len (fun cdv A outer s H vs Q E hr h=>⟨_,?_,rd vs H Q E h⟩)
 have nd:=fL.nd
 exact (@aA _ _ _ _ _ (@dL _ _ _ _ _ _ _ _ (bX (dY (K:=K) rfl hr) (pv 1) (@gX _ _ _ _ _ aE) (cC _)) (@aA _ _ _ _ _ (@bO _ _ _ _ (@gX _ _ _ _ _ (@bE _ _ _ _ _ _ _ aG (@yK _ _ _ _ _ _ (@dZ _ _ _ _ aE) aE)))) aH) aH) (@aA _ _ _ _ _ (@bB _ _ 2 _ _ _ _ nd rfl (Or.inl rfl) (@aZ _ _ _ _ _ _ _ (aO (K:=K) rfl) (pv 1) aG (fun _ _=>rfl)) (by rfl) (by first | exact .inl rfl | exact .inr rfl | assumption)) (@aA _ _ _ _ _ (@bB _ _ 3 _ _ _ _ nd rfl (Or.inl rfl) (@dZ _ _ _ _ aE) (by rfl) (by first | exact .inl rfl | exact .inr rfl | assumption)) (@aA _ _ _ _ _ (gB PassesOwn.never rfl (kO rfl B.range (@bE _ _ _ _ _ _ _ aG (@bC _ _ _ _ _ _ _ _ (aM (aV (K:=K) rfl) rfl B.len cH (@aB _ _ _ _ _ _ (pv 1) aE)) aE))) (bR (i:=4) nd rfl (Or.inl rfl)) (@aA _ _ _ _ _ (jM (bS (cJ.mono (Nat.le_refl _)) hr rfl (@aB _ _ _ _ _ _ (pv 0) (@cL _ _ _ _ _ _ _ _ (@bA _ _ _ _ _ _ _ _ (aY (K:=K) rfl) (cZ (lS (K:=K) rfl) (pv 1) (dE aG) (dE (pv 4))) (cZ (lS (K:=K) rfl) (pv 1) (dE (@bA _ _ _ _ _ _ _ _ (aY (K:=K) rfl) (pv 4) aG)) fS)) aE))) (rF (K:=K) rfl rfl (gH (bR (i:=5) nd rfl (Or.inl rfl)) (gH (bR (i:=6) nd rfl (Or.inl rfl)) qO)))) (@aA _ _ _ _ _ (fO (lI (K:=K) rfl PySem.F.plainAttrs_list PySem.F.slot_list_append PySem.F.type_list_append fP (pv 3) (@kJ _ _ _ _ _ _ _ (@gX _ _ _ _ _ (@cL _ _ _ _ _ _ _ _ (@bA _ _ _ _ _ _ _ _ (aY (K:=K) rfl) (@aZ _ _ _ _ _ _ _ (aO (K:=K) rfl) (@aZ _ _ _ _ _ _ _ (aO (K:=K) rfl) (pv 0) (pv 2) (fun _ _=>rfl)) (@aZ _ _ _ _ _ _ _ (aO (K:=K) rfl) (pv 1) (pv 4) (fun _ _=>rfl)) (fun _ _=>rfl)) (pv 5)) (@cL _ _ _ _ _ _ _ _ (@bA _ _ _ _ _ _ _ _ (aY (K:=K) rfl) (@dZ _ _ _ _ (@kJ _ _ _ _ _ _ _ (@gX _ _ _ _ _ (@aB _ _ _ _ _ _ (pv 2) (@bV _ _ _ _ _ _ _ (@aZ _ _ _ _ _ _ _ (aO (K:=K) rfl) (pv 1) (pv 4) (fun _ _=>rfl)) aE))) aE)) (pv 6)) aE))) aE))) aH))) (@aA _ _ _ _ _ (@bO _ _ _ _ (aM (sZ (K:=K) rfl hr rfl) rfl B.min rQ (@aB _ _ _ _ _ _ (pv 3) aE))) aH)))))
theorem gW:bP ["cell","at","one","two","three"] ["cell","at"] (aK (top 17)):=⟨rfl,rfl,rfl,by decide +kernel,rfl,by decide +kernel,by decide +kernel⟩
noncomputable def iV (K:PySem.W.Frag)   : TS:=(aR (bW (tOp rW (tOp (bJ K) (tOp (bJ K) (tOp fN (tOp rW (aD 0) (tC (.int 1000000007))) (tC (.int 69069))) (tOp fN (aD 1) (tC (.int 40503)))) (tC (.int 977))) (tC (.int 2147483629))) (aN 2)) (aR (bW (tOp rW (tOp (bJ K) (tOp (bJ K) (tOp fN (aD 2) (aD 2)) (tOp fN (aD 1) (tC (.int 7919)))) (tOp rW (aD 0) (tC (.int 65537)))) (tC (.int 2147483587))) (aN 3)) (aR (bW (tOp rW (tOp (bJ K) (tOp (bJ K) (tOp fN (aD 3) (aD 3)) (tOp fN (aD 2) (tC (.int 31)))) (tC (.int 5))) (tC (.int 2147483563))) (aN 4)) (aR (eX (tOp (bJ K) (tOp fN (tOp (bJ K) (tOp fN (aD 2) (tC (.int 2147483659))) (aD 3)) (tC (.int 2147483693))) (aD 4))) aL))))
theorem lX (F:Fun K "_law_cmixed" "_law_cmixed" (top 17) f fd)(B:lQ mg)      {sp:Sp}(len:∀ vs H Q E,sp vs H Q E→vs.length=2)
  (rd:∀ vs H Q E,sp vs H Q E→iV K   { nx:=fun _ H'=>Q .non H',rt:=Q } (bQ ["cell","at","one","two","three"] vs) H):FnOk P w K mg base CX0 1 f fd ["cell","at"] sp:=by
 refine F.ok gW len (fun cdv A outer s H vs Q E hr h=>⟨_,?_,rd vs H Q E h⟩)
 have nd:=gW.nd
 exact (@aA _ _ _ _ _ (@bB _ _ 2 _ _ _ _ nd rfl (Or.inl rfl) (@bA _ _ _ _ _ _ _ _ iN (@bA _ _ _ _ _ _ _ _ (aY (K:=K) rfl) (@bA _ _ _ _ _ _ _ _ (aY (K:=K) rfl) (@bA _ _ _ _ _ _ _ _ cX (@bA _ _ _ _ _ _ _ _ iN (pv 0) aG) aG) (@bA _ _ _ _ _ _ _ _ cX (pv 1) aG)) aG) aG) (by rfl) (by first | exact .inl rfl | exact .inr rfl | assumption)) (@aA _ _ _ _ _ (@bB _ _ 3 _ _ _ _ nd rfl (Or.inl rfl) (@bA _ _ _ _ _ _ _ _ iN (@bA _ _ _ _ _ _ _ _ (aY (K:=K) rfl) (@bA _ _ _ _ _ _ _ _ (aY (K:=K) rfl) (@bA _ _ _ _ _ _ _ _ cX (pv 2) (pv 2)) (@bA _ _ _ _ _ _ _ _ cX (pv 1) aG)) (@bA _ _ _ _ _ _ _ _ iN (pv 0) aG)) aG) (by rfl) (by first | exact .inl rfl | exact .inr rfl | assumption)) (@aA _ _ _ _ _ (@bB _ _ 4 _ _ _ _ nd rfl (Or.inl rfl) (@bA _ _ _ _ _ _ _ _ iN (@bA _ _ _ _ _ _ _ _ (aY (K:=K) rfl) (@bA _ _ _ _ _ _ _ _ (aY (K:=K) rfl) (@bA _ _ _ _ _ _ _ _ cX (pv 3) (pv 3)) (@bA _ _ _ _ _ _ _ _ cX (pv 2) aG)) aG) aG) (by rfl) (by first | exact .inl rfl | exact .inr rfl | assumption)) (@aA _ _ _ _ _ (@bO _ _ _ _ (@bA _ _ _ _ _ _ _ _ (aY (K:=K) rfl) (@bA _ _ _ _ _ _ _ _ cX (@bA _ _ _ _ _ _ _ _ (aY (K:=K) rfl) (@bA _ _ _ _ _ _ _ _ cX (pv 2) aG) (pv 3)) aG) (pv 4))) aH))))
theorem iO:bP ["script"] ["script"] (aK (top 18)):=⟨rfl,rfl,rfl,by decide +kernel,rfl,by decide +kernel,by decide +kernel⟩
noncomputable def jP (K:PySem.W.Frag)   : TS:=(aR (eX (nW (aC (tCB (rL K) (aC (tSl (mH K) (aD 0) cI (dF (tC (.int 40)))) aS)) (aC (tC (.int 0)) (aC (tC (.int 0)) aS))))) aL)
theorem nD (F:Fun K "_law_copen" "_law_copen" (top 18) f fd)(B:lQ mg)      {sp:Sp}(len:∀ vs H Q E,sp vs H Q E→vs.length=1)
  (rd:∀ vs H Q E,sp vs H Q E→jP K   { nx:=fun _ H'=>Q .non H',rt:=Q } (bQ ["script"] vs) H):FnOk P w K mg base CX0 1 f fd ["script"] sp:=by
 refine F.ok iO len (fun cdv A outer s H vs Q E hr h=>⟨_,?_,rd vs H Q E h⟩)
 have nd:=iO.nd
 exact (@aA _ _ _ _ _ (@bO _ _ _ _ (@dZ _ _ _ _ (@bC _ _ _ _ _ _ _ _ (bZ (dO (K:=K) rfl rfl) rfl B.list hU (@bV _ _ _ _ _ _ _ (cZ (lS (K:=K) rfl) (pv 0) fS (dE aG)) aE)) (@bE _ _ _ _ _ _ _ aG (@bE _ _ _ _ _ _ _ aG aE))))) aH)
theorem iG:bP ["feed","many","at","cell","found"] ["feed","many"] (aK (top 19)):=⟨rfl,rfl,rfl,by decide +kernel,rfl,by decide +kernel,by decide +kernel⟩
noncomputable def jL (K:PySem.W.Frag)  (dA:Sp):TS:=(aR (eM (aCR (cB (tOp yLt (tOp (aX K) (aD 0) (tC (.int 2))) (aD 1))) (cB (tOp yGt (tCB (jU K) (aC (tOp (aX K) (aD 0) (tC (.int 0))) aS)) (tC (.int 0))))) (aR (bW (tOp (aX K) (aD 0) (tC (.int 1))) (aN 2)) (aR (bW (tOp (aX K) (tOp (aX K) (aD 0) (tC (.int 0))) (tOp rW (aD 2) (tCB (jU K) (aC (tOp (aX K) (aD 0) (tC (.int 0))) aS)))) (aN 3)) (aR (bW (tOp (bJ K) (aD 2) (tC (.int 1))) (kF (aD 0) (tC (.int 1)) dM)) (aR (bW (aD 3) (kF (aD 0) (tC (.int 2)) dM)) (aR (eM (tOr (cB (tOp yLt (aD 3) (tOp wY (tC (.int 10)) (tC (.int 18))))) (cB (tOp yGe (aD 2) (tCB (jU K) (aC (tOp (aX K) (aD 0) (tC (.int 0))) aS))))) (aR (bW (cA dA [] E0 (aC (aD 3) (aC (aD 2) aS))) (kF (aD 0) (tC (.int 2)) dM)) aL) aL) aL))))) aL) (aR (bW (tOp rW (tOp (aX K) (aD 0) (tC (.int 2))) (aD 1)) (aN 4)) (aR (bW (tOp tM (tOp (aX K) (aD 0) (tC (.int 2))) (aD 1)) (kF (aD 0) (tC (.int 2)) dM)) (aR (eX (aD 4)) aL))))
theorem nS (F:Fun K "_law_cdraw" "_law_cdraw" (top 19) f fd)(B:lQ mg)    {dA:Sp}(fB:Def P w K mg base "_law_cmixed" 1 ["cell","at"] dA)  {sp:Sp}(len:∀ vs H Q E,sp vs H Q E→vs.length=2)
  (rd:∀ vs H Q E,sp vs H Q E→jL K  dA { nx:=fun _ H'=>Q .non H',rt:=Q } (bQ ["feed","many","at","cell","found"] vs) H):FnOk P w K mg base CX0 2 f fd ["feed","many"] sp:=by
 refine F.ok iG len (fun cdv A outer s H vs Q E hr h=>⟨_,?_,rd vs H Q E h⟩)
 have nd:=iG.nd
 exact (@aA _ _ _ _ _ (@dL _ _ _ _ _ _ _ _ (PW.pt (aBg (bX wJ (@aZ _ _ _ _ _ _ _ (aO (K:=K) rfl) (pv 0) aG (fun _ _=>rfl)) (pv 1) (cC _)) (aAr (bX zQ (aM (aV (K:=K) rfl) rfl B.len cH (@bV _ _ _ _ _ _ _ (@aZ _ _ _ _ _ _ _ (aO (K:=K) rfl) (pv 0) aG (fun _ _=>rfl)) aE)) aG (cC _))))) (@aA _ _ _ _ _ (@bB _ _ 2 _ _ _ _ nd rfl (Or.inl rfl) (@aZ _ _ _ _ _ _ _ (aO (K:=K) rfl) (pv 0) aG (fun _ _=>rfl)) (by rfl) (by first | exact .inl rfl | exact .inr rfl | assumption)) (@aA _ _ _ _ _ (@bB _ _ 3 _ _ _ _ nd rfl (Or.inl rfl) (@aZ _ _ _ _ _ _ _ (aO (K:=K) rfl) (@aZ _ _ _ _ _ _ _ (aO (K:=K) rfl) (pv 0) aG (fun _ _=>rfl)) (@bA _ _ _ _ _ _ _ _ iN (pv 2) (aM (aV (K:=K) rfl) rfl B.len cH (@bV _ _ _ _ _ _ _ (@aZ _ _ _ _ _ _ _ (aO (K:=K) rfl) (pv 0) aG (fun _ _=>rfl)) aE))) (fun _ _=>rfl)) (by rfl) (by first | exact .inl rfl | exact .inr rfl | assumption)) (@aA _ _ _ _ _ (jM (@bA _ _ _ _ _ _ _ _ (aY (K:=K) rfl) (pv 2) aG) (lG (pv 0) aG eU)) (@aA _ _ _ _ _ (jM (pv 3) (lG (pv 0) aG eU)) (@aA _ _ _ _ _ (@dL _ _ _ _ _ _ _ _ (PW.pt (pT (bX wJ (pv 3) (@bA _ _ _ _ _ _ _ _ uM aG aG) (cC _)) (mV (bX aCC (pv 2) (aM (aV (K:=K) rfl) rfl B.len cH (@bV _ _ _ _ _ _ _ (@aZ _ _ _ _ _ _ _ (aO (K:=K) rfl) (pv 0) aG (fun _ _=>rfl)) aE)) (cC _))))) (@aA _ _ _ _ _ (jM (bS (fB.mono (by decide)) hr rfl (@aB _ _ _ _ _ _ (pv 3) (@aB _ _ _ _ _ _ (pv 2) aE))) (lG (pv 0) aG eU)) aH) aH) aH))))) aH) (@aA _ _ _ _ _ (@bB _ _ 4 _ _ _ _ nd rfl (Or.inl rfl) (@bA _ _ _ _ _ _ _ _ iN (@aZ _ _ _ _ _ _ _ (aO (K:=K) rfl) (pv 0) aG (fun _ _=>rfl)) (pv 1)) (by rfl) (by first | exact .inl rfl | exact .inr rfl | assumption)) (@aA _ _ _ _ _ (jM (@bA _ _ _ _ _ _ _ _ oJ (@aZ _ _ _ _ _ _ _ (aO (K:=K) rfl) (pv 0) aG (fun _ _=>rfl)) (pv 1)) (lG (pv 0) aG eU)) (@aA _ _ _ _ _ (@bO _ _ _ _ (pv 4)) aH))))
theorem gS:bP ["thing"] ["thing"] (aK (top 20)):=⟨rfl,rfl,rfl,by decide +kernel,rfl,by decide +kernel,by decide +kernel⟩
noncomputable def iU (K:PySem.W.Frag)   : TS:=(aR (eX (xP (tCB (zS K) (aC (aD 0) (aC (tC (.ty "int")) aS))) (aAO (tCB (zS K) (aC (aD 0) (aC (tC (.ty "bool")) aS)))))) aL)
theorem mB (F:Fun K "_law_cwhole" "_law_cwhole" (top 20) f fd)(B:lQ mg)      {sp:Sp}(len:∀ vs H Q E,sp vs H Q E→vs.length=1)
  (rd:∀ vs H Q E,sp vs H Q E→iU K   { nx:=fun _ H'=>Q .non H',rt:=Q } (bQ ["thing"] vs) H):FnOk P w K mg base CX0 1 f fd ["thing"] sp:=by
 refine F.ok gS len (fun cdv A outer s H vs Q E hr h=>⟨_,?_,rd vs H Q E h⟩)
 have nd:=gS.nd
 exact (@aA _ _ _ _ _ (@bO _ _ _ _ (uY (aM (fW (K:=K) rfl) rfl B.isi fU (@aB _ _ _ _ _ _ (pv 0) (@aB _ _ _ _ _ _ (jC (v := .ty "int") rfl B.int yQ rfl) aE))) (tY (aAC (aM (fW (K:=K) rfl) rfl B.isi fU (@aB _ _ _ _ _ _ (pv 0) (@aB _ _ _ _ _ _ (jC (v := .ty "bool") rfl B.bool zZ rfl) aE))))))) aH)
theorem gO:bP ["many","found","i"] ["many"] (aK (top 21)):=⟨rfl,rfl,rfl,by decide +kernel,rfl,by decide +kernel,by decide +kernel⟩
noncomputable def iH (K:PySem.W.Frag)   : TS:=(aR (bW (nW aS) (aN 1)) (aR (qN (jX (aC (aD 0) aS)) (aN 2) (aR (bW (tOp (bJ K) (aD 1) (kX [none,some 2] (wS (aC (tOp (bJ K) (aD 2) (tC (.int 1))) (aC (aD 0) aS))) (aN 0) [] fun acc=>(jT (qF (aC (aD 1) (aC (aD 0) aS))) acc))) (aN 1)) aL)) (aR (eX (aD 1)) aL)))
theorem mC (F:Fun K "_law_cpairs" "_law_cpairs" (top 21) f fd)(B:lQ mg)      {sp:Sp}(len:∀ vs H Q E,sp vs H Q E→vs.length=1)
  (rd:∀ vs H Q E,sp vs H Q E→iH K   { nx:=fun _ H'=>Q .non H',rt:=Q } (bQ ["many","found","i"] vs) H):FnOk P w K mg base CX0 1 f fd ["many"] sp:=by
 refine F.ok gO len (fun cdv A outer s H vs Q E hr h=>⟨_,?_,rd vs H Q E h⟩)
 have nd:=gO.nd
 exact (@aA _ _ _ _ _ (@bB _ _ 1 _ _ _ _ nd rfl (Or.inl rfl) (@dZ _ _ _ _ aE) (by rfl) (by first | exact .inl rfl | exact .inr rfl | assumption)) (@aA _ _ _ _ _ (gB PassesOwn.never rfl (cM rfl B.range (@aB _ _ _ _ _ _ (pv 0) aE)) (bR (i:=2) nd rfl (Or.inr rfl)) (@aA _ _ _ _ _ (@bB _ _ 1 _ _ _ _ nd rfl (Or.inl rfl) (@bA _ _ _ _ _ _ _ _ (aY (K:=K) rfl) (pv 1) (lM (N':=["j","i"]) (ix:=[none,some 2]) rfl rfl rfl (kO rfl B.range (@cL _ _ _ _ _ _ _ _ (@bA _ _ _ _ _ _ _ _ (aY (K:=K) rfl) (pv 2) aG) (@aB _ _ _ _ _ _ (pv 0) aE))) (fun _ _ _=>(bR (i:=0) (show (["j","i"]:List Str).Nodup from by decide +kernel) rfl (Or.inl rfl))) (fun _ _ _ => .nil) (fun _ _ _ _=>(gA rfl (@gX _ _ _ _ _ (@aB _ _ _ _ _ _ (pv 1) (@aB _ _ _ _ _ _ (pv 0) aE))) rfl)))) (by rfl) (by first | exact .inl rfl | exact .inr rfl | assumption)) aH)) (@aA _ _ _ _ _ (@bO _ _ _ _ (pv 1)) aH)))
theorem gT:bP ["rows","found","k","i","j","step"] ["rows"] (aK (top 22)):=⟨rfl,rfl,rfl,by decide +kernel,rfl,by decide +kernel,by decide +kernel⟩
noncomputable def iT (K:PySem.W.Frag)   : TS:=(aR (bW (kX [none] (wH K (aD 0)) (aN 0) [] fun acc=>(jT (tCB (rL K) (aC (aD 0) aS)) acc)) (aN 1)) (aR (qN (jX (aC (tCB (jU K) (aC (aD 0) aS)) aS)) (aN 2) (aR (qN (jX (aC (tCB (jU K) (aC (aD 0) aS)) aS)) (aN 3) (aR (qN (jX (aC (tCB (jU K) (aC (aD 0) aS)) aS)) (aN 4) (aR (bW (tOp (bJ K) (tOp (aX K) (tOp (aX K) (aD 1) (aD 3)) (aD 2)) (tOp (aX K) (tOp (aX K) (aD 1) (aD 2)) (aD 4))) (aN 5)) (aR (bW (tCB oK (aC (tOp (aX K) (tOp (aX K) (aD 1) (aD 3)) (aD 4)) (aC (aD 5) aS))) (kF (tOp (aX K) (aD 1) (aD 3)) (aD 4) dM)) aL))) aL)) aL)) (aR (eX (tCB (jJ K) (aC (kX [none] (wH K (aD 1)) (aN 0) [] fun acc=>(jT (tCB (jJ K) (aC (aD 0) aS)) acc)) aS))) aL)))
theorem lT (F:Fun K "_law_cshort" "_law_cshort" (top 22) f fd)(B:lQ mg)      {sp:Sp}(len:∀ vs H Q E,sp vs H Q E→vs.length=1)
  (rd:∀ vs H Q E,sp vs H Q E→iT K   { nx:=fun _ H'=>Q .non H',rt:=Q } (bQ ["rows","found","k","i","j","step"] vs) H):FnOk P w K mg base CX0 1 f fd ["rows"] sp:=by
 refine F.ok gT len (fun cdv A outer s H vs Q E hr h=>⟨_,?_,rd vs H Q E h⟩)
 have nd:=gT.nd
 exact (@aA _ _ _ _ _ (jD (i:=1) nd rfl (Or.inl rfl) (N':=["row"]) (ix:=[none]) rfl rfl rfl (hX (K:=K) rfl (pv 0)) (fun _ _ _=>(bR (i:=0) (show (["row"]:List Str).Nodup from by decide +kernel) rfl (Or.inl rfl))) (fun _ _ _ => .nil) (fun _ _ _ _=>(gA rfl (bZ (dO (K:=K) rfl rfl) rfl B.list hU (@aB _ _ _ _ _ _ (pv 0) aE)) rfl))) (@aA _ _ _ _ _ (gB PassesOwn.never rfl (cM rfl B.range (@bC _ _ _ _ _ _ _ _ (aM (aV (K:=K) rfl) rfl B.len cH (@aB _ _ _ _ _ _ (pv 0) aE)) aE)) (bR (i:=2) nd rfl (Or.inl rfl)) (@aA _ _ _ _ _ (gB PassesOwn.never rfl (cM rfl B.range (@bC _ _ _ _ _ _ _ _ (aM (aV (K:=K) rfl) rfl B.len cH (@aB _ _ _ _ _ _ (pv 0) aE)) aE)) (bR (i:=3) nd rfl (Or.inl rfl)) (@aA _ _ _ _ _ (gB PassesOwn.never rfl (cM rfl B.range (@bC _ _ _ _ _ _ _ _ (aM (aV (K:=K) rfl) rfl B.len cH (@aB _ _ _ _ _ _ (pv 0) aE)) aE)) (bR (i:=4) nd rfl (Or.inl rfl)) (@aA _ _ _ _ _ (@bB _ _ 5 _ _ _ _ nd rfl (Or.inl rfl) (@bA _ _ _ _ _ _ _ _ (aY (K:=K) rfl) (@aZ _ _ _ _ _ _ _ (aO (K:=K) rfl) (@aZ _ _ _ _ _ _ _ (aO (K:=K) rfl) (pv 1) (pv 3) (fun _ _=>rfl)) (pv 2) (fun _ _=>rfl)) (@aZ _ _ _ _ _ _ _ (aO (K:=K) rfl) (@aZ _ _ _ _ _ _ _ (aO (K:=K) rfl) (pv 1) (pv 2) (fun _ _=>rfl)) (pv 4) (fun _ _=>rfl))) (by rfl) (by first | exact .inl rfl | exact .inr rfl | assumption)) (@aA _ _ _ _ _ (jM (aM (mY rfl) rfl B.min rQ (@bV _ _ _ _ _ _ _ (@aZ _ _ _ _ _ _ _ (aO (K:=K) rfl) (@aZ _ _ _ _ _ _ _ (aO (K:=K) rfl) (pv 1) (pv 3) (fun _ _=>rfl)) (pv 4) (fun _ _=>rfl)) (@aB _ _ _ _ _ _ (pv 5) aE))) (lG (@aZ _ _ _ _ _ _ _ (aO (K:=K) rfl) (pv 1) (pv 3) (fun _ _=>rfl)) (pv 4) eU)) aH))) aH)) aH)) (@aA _ _ _ _ _ (@bO _ _ _ _ (bZ (dW (K:=K) rfl) rfl B.tuple eW (dG (lM (N':=["row"]) (ix:=[none]) rfl rfl rfl (hX (K:=K) rfl (pv 1)) (fun _ _ _=>(bR (i:=0) (show (["row"]:List Str).Nodup from by decide +kernel) rfl (Or.inl rfl))) (fun _ _ _ => .nil) (fun _ _ _ _=>(gA rfl (bZ (dW (K:=K) rfl) rfl B.tuple eW (@aB _ _ _ _ _ _ (pv 0) aE)) rfl))) aE))) aH)))
theorem iF:bP ["feed","least","most","many","way","top","rows","spots","i","j","found"] ["feed","least","most"] (aK (top 23)):=⟨rfl,rfl,rfl,by decide +kernel,rfl,by decide +kernel,by decide +kernel⟩
noncomputable def jH (K:PySem.W.Frag)  (aI:Sp) (bG:Sp) (bH:Sp):TS:=(aR (bW (tOp (bJ K) (aD 1) (cA aI [] E0 (aC (aD 0) (aC (tOp (bJ K) (tOp lP (aD 2) (aD 1)) (tC (.int 1))) aS)))) (aN 3)) (aR (bW (cA aI [] E0 (aC (aD 0) (aC (tC (.int 8)) aS))) (aN 4)) (aR (bW (tOp (aX K) (nW (aC (tC (.int 2)) (aC (tC (.int 5)) (aC (tC (.int 30)) (aC (tC (.int 1000001)) aS))))) (cA aI [] E0 (aC (aD 0) (aC (tC (.int 4)) aS)))) (aN 5)) (aR (bW (kX [none,some 3] (jX (aC (aD 3) aS)) (aN 0) [] fun acc=>(jT (tOp fN (nW (aC (tC (.int 0)) aS)) (aD 1)) acc)) (aN 6)) (aR (bW (kX [none,some 0,some 5] (jX (aC (aD 3) aS)) (aN 0) [] fun acc=>(jT (qF (aC (cA aI [] E0 (aC (aD 1) (aC (aD 2) aS))) (aC (cA aI [] E0 (aC (aD 1) (aC (aD 2) aS))) aS))) acc)) (aN 7)) (aR (qN (wH K (cA bG [] E0 (aC (aD 3) aS))) (aBv K 2 (rB (aN 8) (rB (aN 9) aBK))) (aR (bW (cA aI [] E0 (aC (aD 0) (aC (aD 5) aS))) (aN 10)) (aR (eM (cB (tOp (gF K) (aD 4) (tC (.int 1)))) (aR (bW (tOp fN (tOp rW (aD 10) (tC (.int 2))) (tOp lP (aD 5) (tC (.int 1)))) (aN 10)) aL) aL) (aR (eM (tOr (cB (tOp (gF K) (aD 4) (tC (.int 2)))) (cB (tOp (gF K) (aD 4) (tC (.int 3))))) (aR (bW (tCB tS (aC (tOp lP (tOp (aX K) (tOp (aX K) (aD 7) (aD 8)) (tC (.int 0))) (tOp (aX K) (tOp (aX K) (aD 7) (aD 9)) (tC (.int 0)))) aS)) (aN 10)) aL) aL) (aR (eM (cB (tOp (gF K) (aD 4) (tC (.int 3)))) (aR (bW (tOp (bJ K) (aD 10) (tCB tS (aC (tOp lP (tOp (aX K) (tOp (aX K) (aD 7) (aD 8)) (tC (.int 1))) (tOp (aX K) (tOp (aX K) (aD 7) (aD 9)) (tC (.int 1)))) aS))) (aN 10)) aL) aL) (aR (eM (cB (tOp (gF K) (aD 4) (tC (.int 4)))) (aR (bW (tOp lP (aD 5) (tC (.int 1))) (aN 10)) aL) aL) (aR (bW (tCB oK (aC (aD 10) (aC (tOp wY (tC (.int 10)) (tC (.int 6))) aS))) (kF (tOp (aX K) (aD 6) (aD 8)) (aD 9) dM)) (aR (bW (tOp (aX K) (tOp (aX K) (aD 6) (aD 8)) (aD 9)) (kF (tOp (aX K) (aD 6) (aD 9)) (aD 8) dM)) aL)))))))) (aR (eM (cB (tOp yGt (aD 4) (tC (.int 5)))) (aR (eX (cA bH [] E0 (aC (aD 6) aS))) aL) aL) (aR (eX (tCB (jJ K) (aC (kX [none] (wH K (aD 6)) (aN 0) [] fun acc=>(jT (tCB (jJ K) (aC (aD 0) aS)) acc)) aS))) aL))))))))
theorem oA (F:Fun K "_law_ceven" "_law_ceven" (top 23) f fd)(B:lQ mg)    {aI:Sp}(aT:Def P w K mg base "_law_cdraw" 2 ["feed","many"] aI){bG:Sp}(fD:Def P w K mg base "_law_cpairs" 1 ["many"] bG){bH:Sp}(fF:Def P w K mg base "_law_cshort" 1 ["rows"] bH)  {sp:Sp}(len:∀ vs H Q E,sp vs H Q E→vs.length=3)
  (rd:∀ vs H Q E,sp vs H Q E→jH K  aI bG bH { nx:=fun _ H'=>Q .non H',rt:=Q } (bQ ["feed","least","most","many","way","top","rows","spots","i","j","found"] vs) H):FnOk P w K mg base CX0 3 f fd ["feed","least","most"] sp:=by
 refine F.ok iF len (fun cdv A outer s H vs Q E hr h=>⟨_,?_,rd vs H Q E h⟩)
 have nd:=iF.nd
 exact (@aA _ _ _ _ _ (@bB _ _ 3 _ _ _ _ nd rfl (Or.inr rfl) (@bA _ _ _ _ _ _ _ _ (aY (K:=K) rfl) (pv 1) (bS (aT.mono (by decide)) hr rfl (@aB _ _ _ _ _ _ (pv 0) (@cL _ _ _ _ _ _ _ _ (@bA _ _ _ _ _ _ _ _ (aY (K:=K) rfl) (@bA _ _ _ _ _ _ _ _ lB (pv 2) (pv 1)) aG) aE)))) (by rfl) (by first | exact .inl rfl | exact .inr rfl | assumption)) (@aA _ _ _ _ _ (@bB _ _ 4 _ _ _ _ nd rfl (Or.inl rfl) (bS (aT.mono (by decide)) hr rfl (@aB _ _ _ _ _ _ (pv 0) (@bE _ _ _ _ _ _ _ aG aE))) (by rfl) (by first | exact .inl rfl | exact .inr rfl | assumption)) (@aA _ _ _ _ _ (@bB _ _ 5 _ _ _ _ nd rfl (Or.inr rfl) (@aZ _ _ _ _ _ _ _ (aO (K:=K) rfl) (@dZ _ _ _ _ (@bE _ _ _ _ _ _ _ aG (@bE _ _ _ _ _ _ _ aG (@bE _ _ _ _ _ _ _ aG (@bE _ _ _ _ _ _ _ aG aE))))) (bS (aT.mono (by decide)) hr rfl (@aB _ _ _ _ _ _ (pv 0) (@bE _ _ _ _ _ _ _ aG aE))) (fun _ _=>rfl)) (by rfl) (by first | exact .inl rfl | exact .inr rfl | assumption)) (@aA _ _ _ _ _ (jD (i:=6) nd rfl (Or.inl rfl) (N':=["k","many"]) (ix:=[none,some 3]) rfl rfl rfl (cM rfl B.range (@aB _ _ _ _ _ _ (pv 3) aE)) (fun _ _ _=>(bR (i:=0) (show (["k","many"]:List Str).Nodup from by decide +kernel) rfl (Or.inl rfl))) (fun _ _ _ => .nil) (fun _ _ _ _=>(gA rfl (@bA _ _ _ _ _ _ _ _ cX (@dZ _ _ _ _ (@bE _ _ _ _ _ _ _ aG aE)) (pv 1)) rfl))) (@aA _ _ _ _ _ (jD (i:=7) nd rfl (Or.inl rfl) (N':=["k","feed","top"]) (ix:=[none,some 0,some 5]) rfl rfl rfl (cM rfl B.range (@aB _ _ _ _ _ _ (pv 3) aE)) (fun _ _ _=>(bR (i:=0) (show (["k","feed","top"]:List Str).Nodup from by decide +kernel) rfl (Or.inl rfl))) (fun _ _ _ => .nil) (fun _ _ _ _=>(gA rfl (@gX _ _ _ _ _ (@bC _ _ _ _ _ _ _ _ (bS (aT.mono (by decide)) hr rfl (@aB _ _ _ _ _ _ (pv 1) (@aB _ _ _ _ _ _ (pv 2) aE))) (@bC _ _ _ _ _ _ _ _ (bS (aT.mono (by decide)) hr rfl (@aB _ _ _ _ _ _ (pv 1) (@aB _ _ _ _ _ _ (pv 2) aE))) aE))) rfl))) (@aA _ _ _ _ _ (gB PassesOwn.never rfl (hX (K:=K) rfl (bS (fD.mono (by decide)) hr rfl (@aB _ _ _ _ _ _ (pv 3) aE))) (rF (K:=K) rfl rfl (gH (bR (i:=8) nd rfl (Or.inl rfl)) (gH (bR (i:=9) nd rfl (Or.inl rfl)) qO))) (@aA _ _ _ _ _ (@bB _ _ 10 _ _ _ _ nd rfl (Or.inl rfl) (bS (aT.mono (by decide)) hr rfl (@aB _ _ _ _ _ _ (pv 0) (@aB _ _ _ _ _ _ (pv 5) aE))) (by rfl) (by first | exact .inl rfl | exact .inr rfl | assumption)) (@aA _ _ _ _ _ (@dL _ _ _ _ _ _ _ _ (bX (dY (K:=K) rfl hr) (pv 4) aG (cC _)) (@aA _ _ _ _ _ (@bB _ _ 10 _ _ _ _ nd rfl (Or.inl rfl) (@bA _ _ _ _ _ _ _ _ cX (@bA _ _ _ _ _ _ _ _ iN (pv 10) aG) (@bA _ _ _ _ _ _ _ _ lB (pv 5) aG)) (by rfl) (by first | exact .inl rfl | exact .inr rfl | assumption)) aH) aH) (@aA _ _ _ _ _ (@dL _ _ _ _ _ _ _ _ (PW.pt (pT (bX (dY (K:=K) rfl hr) (pv 4) aG (cC _)) (mV (bX (dY (K:=K) rfl hr) (pv 4) aG (cC _))))) (@aA _ _ _ _ _ (@bB _ _ 10 _ _ _ _ nd rfl (Or.inl rfl) (aM oT rfl B.abs yP (@cL _ _ _ _ _ _ _ _ (@bA _ _ _ _ _ _ _ _ lB (@aZ _ _ _ _ _ _ _ (aO (K:=K) rfl) (@aZ _ _ _ _ _ _ _ (aO (K:=K) rfl) (pv 7) (pv 8) (fun _ _=>rfl)) aG (fun _ _=>rfl)) (@aZ _ _ _ _ _ _ _ (aO (K:=K) rfl) (@aZ _ _ _ _ _ _ _ (aO (K:=K) rfl) (pv 7) (pv 9) (fun _ _=>rfl)) aG (fun _ _=>rfl))) aE)) (by rfl) (by first | exact .inl rfl | exact .inr rfl | assumption)) aH) aH) (@aA _ _ _ _ _ (@dL _ _ _ _ _ _ _ _ (bX (dY (K:=K) rfl hr) (pv 4) aG (cC _)) (@aA _ _ _ _ _ (@bB _ _ 10 _ _ _ _ nd rfl (Or.inl rfl) (@bA _ _ _ _ _ _ _ _ (aY (K:=K) rfl) (pv 10) (aM oT rfl B.abs yP (@cL _ _ _ _ _ _ _ _ (@bA _ _ _ _ _ _ _ _ lB (@aZ _ _ _ _ _ _ _ (aO (K:=K) rfl) (@aZ _ _ _ _ _ _ _ (aO (K:=K) rfl) (pv 7) (pv 8) (fun _ _=>rfl)) aG (fun _ _=>rfl)) (@aZ _ _ _ _ _ _ _ (aO (K:=K) rfl) (@aZ _ _ _ _ _ _ _ (aO (K:=K) rfl) (pv 7) (pv 9) (fun _ _=>rfl)) aG (fun _ _=>rfl))) aE))) (by rfl) (by first | exact .inl rfl | exact .inr rfl | assumption)) aH) aH) (@aA _ _ _ _ _ (@dL _ _ _ _ _ _ _ _ (bX (dY (K:=K) rfl hr) (pv 4) aG (cC _)) (@aA _ _ _ _ _ (@bB _ _ 10 _ _ _ _ nd rfl (Or.inl rfl) (@bA _ _ _ _ _ _ _ _ lB (pv 5) aG) (by rfl) (by first | exact .inl rfl | exact .inr rfl | assumption)) aH) aH) (@aA _ _ _ _ _ (jM (aM (mY rfl) rfl B.min rQ (@aB _ _ _ _ _ _ (pv 10) (@cL _ _ _ _ _ _ _ _ (@bA _ _ _ _ _ _ _ _ uM aG aG) aE))) (lG (@aZ _ _ _ _ _ _ _ (aO (K:=K) rfl) (pv 6) (pv 8) (fun _ _=>rfl)) (pv 9) eU)) (@aA _ _ _ _ _ (jM (@aZ _ _ _ _ _ _ _ (aO (K:=K) rfl) (@aZ _ _ _ _ _ _ _ (aO (K:=K) rfl) (pv 6) (pv 8) (fun _ _=>rfl)) (pv 9) (fun _ _=>rfl)) (lG (@aZ _ _ _ _ _ _ _ (aO (K:=K) rfl) (pv 6) (pv 9) (fun _ _=>rfl)) (pv 8) eU)) aH)))))))) (@aA _ _ _ _ _ (@dL _ _ _ _ _ _ _ _ (bX zQ (pv 4) aG (cC _)) (@aA _ _ _ _ _ (@bO _ _ _ _ (bS (fF.mono (by decide)) hr rfl (@aB _ _ _ _ _ _ (pv 6) aE))) aH) aH) (@aA _ _ _ _ _ (@bO _ _ _ _ (bZ (dW (K:=K) rfl) rfl B.tuple eW (dG (lM (N':=["row"]) (ix:=[none]) rfl rfl rfl (hX (K:=K) rfl (pv 6)) (fun _ _ _=>(bR (i:=0) (show (["row"]:List Str).Nodup from by decide +kernel) rfl (Or.inl rfl))) (fun _ _ _ => .nil) (fun _ _ _ _=>(gA rfl (bZ (dW (K:=K) rfl) rfl B.tuple eW (@aB _ _ _ _ _ _ (pv 0) aE)) rfl))) aE))) aH))))))))
theorem fX:bP ["feed","table","i","j","number","row"] ["feed","table"] (aK (top 24)):=⟨rfl,rfl,rfl,by decide +kernel,rfl,by decide +kernel,by decide +kernel⟩
noncomputable def gP (K:PySem.W.Frag)  (aI:Sp):TS:=(aR (bW (cA aI [] E0 (aC (aD 0) (aC (tCB (jU K) (aC (aD 1) aS)) aS))) (aN 2)) (aR (bW (tOp rW (tOp (bJ K) (tOp (bJ K) (aD 2) (tC (.int 1))) (cA aI [] E0 (aC (aD 0) (aC (tOp lP (tCB (jU K) (aC (aD 1) aS)) (tC (.int 1))) aS)))) (tCB (jU K) (aC (aD 1) aS))) (aN 3)) (aR (bW (tOp lP (tOp (bJ K) (tOp (aX K) (tOp (aX K) (aD 1) (aD 2)) (aD 3)) (tC (.int 1))) (tOp fN (tC (.int 2)) (tCB aBn (aC (tOp (gF K) (tOp (aX K) (tOp (aX K) (aD 1) (aD 2)) (aD 3)) (tOp wY (tC (.int 10)) (tC (.int 6)))) aS)))) (aN 4)) (aR (bW (tOp (bJ K) (tOp (bJ K) (tSl (mH K) (tOp (aX K) (aD 1) (aD 2)) cI (dF (aD 3))) (qF (aC (aD 4) aS))) (tSl (mH K) (tOp (aX K) (aD 1) (aD 2)) (dF (tOp (bJ K) (aD 3) (tC (.int 1)))) cI)) (aN 5)) (aR (eX (tOp (bJ K) (tOp (bJ K) (tSl (mH K) (aD 1) cI (dF (aD 2))) (qF (aC (aD 5) aS))) (tSl (mH K) (aD 1) (dF (tOp (bJ K) (aD 2) (tC (.int 1)))) cI))) aL)))))
theorem lK (F:Fun K "_law_cuneven" "_law_cuneven" (top 24) f fd)(B:lQ mg)    {aI:Sp}(aT:Def P w K mg base "_law_cdraw" 2 ["feed","many"] aI)  {sp:Sp}(len:∀ vs H Q E,sp vs H Q E→vs.length=2)
  (rd:∀ vs H Q E,sp vs H Q E→gP K  aI { nx:=fun _ H'=>Q .non H',rt:=Q } (bQ ["feed","table","i","j","number","row"] vs) H):FnOk P w K mg base CX0 3 f fd ["feed","table"] sp:=by
 refine F.ok fX len (fun cdv A outer s H vs Q E hr h=>⟨_,?_,rd vs H Q E h⟩)
 have nd:=fX.nd
 exact (@aA _ _ _ _ _ (@bB _ _ 2 _ _ _ _ nd rfl (Or.inl rfl) (bS (aT.mono (by decide)) hr rfl (@aB _ _ _ _ _ _ (pv 0) (@bC _ _ _ _ _ _ _ _ (aM (aV (K:=K) rfl) rfl B.len cH (@aB _ _ _ _ _ _ (pv 1) aE)) aE))) (by rfl) (by first | exact .inl rfl | exact .inr rfl | assumption)) (@aA _ _ _ _ _ (@bB _ _ 3 _ _ _ _ nd rfl (Or.inl rfl) (@bA _ _ _ _ _ _ _ _ iN (@bA _ _ _ _ _ _ _ _ (aY (K:=K) rfl) (@bA _ _ _ _ _ _ _ _ (aY (K:=K) rfl) (pv 2) aG) (bS (aT.mono (by decide)) hr rfl (@aB _ _ _ _ _ _ (pv 0) (@cL _ _ _ _ _ _ _ _ (@bA _ _ _ _ _ _ _ _ lB (aM (aV (K:=K) rfl) rfl B.len cH (@aB _ _ _ _ _ _ (pv 1) aE)) aG) aE)))) (aM (aV (K:=K) rfl) rfl B.len cH (@aB _ _ _ _ _ _ (pv 1) aE))) (by rfl) (by first | exact .inl rfl | exact .inr rfl | assumption)) (@aA _ _ _ _ _ (@bB _ _ 4 _ _ _ _ nd rfl (Or.inl rfl) (@bA _ _ _ _ _ _ _ _ lB (@bA _ _ _ _ _ _ _ _ (aY (K:=K) rfl) (@aZ _ _ _ _ _ _ _ (aO (K:=K) rfl) (@aZ _ _ _ _ _ _ _ (aO (K:=K) rfl) (pv 1) (pv 2) (fun _ _=>rfl)) (pv 3) (fun _ _=>rfl)) aG) (@bA _ _ _ _ _ _ _ _ cX aG (bZ sK rfl B.int yQ (dG (iY (dY (K:=K) rfl hr) (@aZ _ _ _ _ _ _ _ (aO (K:=K) rfl) (@aZ _ _ _ _ _ _ _ (aO (K:=K) rfl) (pv 1) (pv 2) (fun _ _=>rfl)) (pv 3) (fun _ _=>rfl)) (@bA _ _ _ _ _ _ _ _ uM aG aG) (cC _)) aE)))) (by rfl) (by first | exact .inl rfl | exact .inr rfl | assumption)) (@aA _ _ _ _ _ (@bB _ _ 5 _ _ _ _ nd rfl (Or.inl rfl) (@bA _ _ _ _ _ _ _ _ (aY (K:=K) rfl) (@bA _ _ _ _ _ _ _ _ (aY (K:=K) rfl) (cZ (lS (K:=K) rfl) (@aZ _ _ _ _ _ _ _ (aO (K:=K) rfl) (pv 1) (pv 2) (fun _ _=>rfl)) fS (dE (pv 3))) (@gX _ _ _ _ _ (@aB _ _ _ _ _ _ (pv 4) aE))) (cZ (lS (K:=K) rfl) (@aZ _ _ _ _ _ _ _ (aO (K:=K) rfl) (pv 1) (pv 2) (fun _ _=>rfl)) (dE (@bA _ _ _ _ _ _ _ _ (aY (K:=K) rfl) (pv 3) aG)) fS)) (by rfl) (by first | exact .inl rfl | exact .inr rfl | assumption)) (@aA _ _ _ _ _ (@bO _ _ _ _ (@bA _ _ _ _ _ _ _ _ (aY (K:=K) rfl) (@bA _ _ _ _ _ _ _ _ (aY (K:=K) rfl) (cZ (lS (K:=K) rfl) (pv 1) fS (dE (pv 2))) (@gX _ _ _ _ _ (@aB _ _ _ _ _ _ (pv 5) aE))) (cZ (lS (K:=K) rfl) (pv 1) (dE (@bA _ _ _ _ _ _ _ _ (aY (K:=K) rfl) (pv 2) aG)) fS))) aH)))))
theorem fH:bP ["act","caught","kinds","others","e"] ["act"] (aK (top 25)):=⟨rfl,rfl,rfl,by decide +kernel,rfl,by decide +kernel,by decide +kernel⟩
noncomputable def fZ (K:PySem.W.Frag) (fo:Addr→Sp→Prop) (C_NoBack:Addr) (C_NoRow:Addr) (C_NoTable:Addr) (C_NoText:Addr) (C_NotEven:Addr) (C_NotStraight:Addr) (C_RoundError:Addr) (C_TooFew:Addr) (C_TooMany:Addr)  : TS:=(aR (bW (tC .non) (aN 1)) (aR (aCv K C_RoundError 4 5 (fun E=>(aR (eM (cB (tOp (gF K) (tCB (jU K) (aC (aD 0) aS)) (tC (.int 2)))) (aR (nP (rO fo E (tOp (aX K) (aD 0) (tC (.int 0))) (aC (tOp (aX K) (aD 0) (tC (.int 1))) aS))) aL) (aR (eM (cB (tOp (gF K) (tCB (jU K) (aC (aD 0) aS)) (tC (.int 3)))) (aR (nP (rO fo E (tOp (aX K) (aD 0) (tC (.int 0))) (aC (tOp (aX K) (aD 0) (tC (.int 1))) (aC (tOp (aX K) (aD 0) (tC (.int 2))) aS)))) aL) (aR (nP (rO fo E (tOp (aX K) (aD 0) (tC (.int 0))) (aC (tOp (aX K) (aD 0) (tC (.int 1))) (aC (tOp (aX K) (aD 0) (tC (.int 2))) (aC (tOp (aX K) (aD 0) (tC (.int 3))) aS))))) aL)) aL)) aL)) (aR (bW (aD 4) (aN 1)) aL)) (aR (eM (cB (tOp aCA (aD 1) (tC .non))) (aR (eX (tC (.str ""))) aL) aL) (aR (bW (nW (aC (tCB (rX K) (aC (aD 1) (aC (tC (.ref C_NotEven)) aS))) (aC (tCB (rX K) (aC (aD 1) (aC (tC (.ref C_NotStraight)) aS))) aS))) (aN 2)) (aR (bW (tOp (bJ K) (aD 2) (nW (aC (tCB (rX K) (aC (aD 1) (aC (tC (.ref C_TooFew)) aS))) (aC (tCB (rX K) (aC (aD 1) (aC (tC (.ref C_TooMany)) aS))) aS)))) (aN 2)) (aR (bW (tCB (rX K) (aC (aD 1) (aC (qF (aC (tC (.ref C_NoBack)) (aC (tC (.ref C_NoRow)) (aC (tC (.ref C_NoTable)) (aC (tC (.ref C_NoText)) aS))))) aS))) (aN 3)) (aR (eM (tOr (cB (tOp (zA K) (tBM K "list" aCd (aD 2) (aC (tC (.bl true)) aS)) (tC (.int 1)))) (tOr (aCx K (aD 3)) (sA (tB (tCB (rX K) (aC (aD 1) (aC (tC (.ty "ValueError")) aS))))))) (aR (eX (tC (.str "odd"))) aL) aL) (aR (eX (tOp (aX K) (nW (aC (tC (.str "even")) (aC (tC (.str "straight")) (aC (tC (.str "few")) (aC (tC (.str "many")) aS))))) (tBM K "list" aCe (aD 2) (aC (tC (.bl true)) aS)))) aL))))))))
theorem jZ (F:Fun K "_law_crefused" "_law_crefused" (top 25) f fd)(B:lQ mg)  {fo:Addr→Sp→Prop}(HV:∀ f sp,fo f sp→DefV P w K mg base 8 f sp){C_NoBack:Addr}(GC_NoBack:mg "NoBack" = some (.ref C_NoBack)){C_NoRow:Addr}(GC_NoRow:mg "NoRow" = some (.ref C_NoRow)){C_NoTable:Addr}(GC_NoTable:mg "NoTable" = some (.ref C_NoTable)){C_NoText:Addr}(GC_NoText:mg "NoText" = some (.ref C_NoText)){C_NotEven:Addr}(GC_NotEven:mg "NotEven" = some (.ref C_NotEven)){C_NotStraight:Addr}(GC_NotStraight:mg "NotStraight" = some (.ref C_NotStraight)){C_RoundError:Addr}(GC_RoundError:mg "RoundError" = some (.ref C_RoundError)){C_TooFew:Addr}(GC_TooFew:mg "TooFew" = some (.ref C_TooFew)){C_TooMany:Addr}(GC_TooMany:mg "TooMany" = some (.ref C_TooMany))  (GV:mg "ValueError" = none)   {sp:Sp}(len:∀ vs H Q E,sp vs H Q E→vs.length=1)
  (rd:∀ vs H Q E,sp vs H Q E→fZ K fo C_NoBack C_NoRow C_NoTable C_NoText C_NotEven C_NotStraight C_RoundError C_TooFew C_TooMany  { nx:=fun _ H'=>Q .non H',rt:=Q } (bQ ["act","caught","kinds","others","e"] vs) H):FnOk P w K mg base CX0 9 f fd ["act"] sp:=by
 refine F.ok fH len (fun cdv A outer s H vs Q E hr h=>⟨_,?_,rd vs H Q E h⟩)
 have nd:=fH.nd
 exact (@aA _ _ _ _ _ (@bB _ _ 1 _ _ _ _ nd rfl (Or.inl rfl) yX (by rfl) (by first | exact .inl rfl | exact .inr rfl | assumption)) (@aA _ _ _ _ _ (aAc (K:=K) (ie:=4) (ln:=5) rfl rfl rfl rfl nd rfl rfl rfl GC_RoundError (fun pn W E hx=>(@aA _ _ _ _ _ (@dL _ _ _ _ _ _ _ _ (PT.nox (bX (dY (K:=K) rfl hr) (aM (aV (K:=K) rfl) rfl B.len cH (@aB _ _ _ _ _ _ (pv 0) aE)) aG (cC _))) (@aA _ _ _ _ _ (fO (nL (fun f sp h=>(HV f sp h).mono (by decide)) hr hx (@aZ _ _ _ _ _ _ _ (aO (K:=K) rfl) (pv 0) aG (fun _ _=>rfl)) (@bV _ _ _ _ _ _ _ (@aZ _ _ _ _ _ _ _ (aO (K:=K) rfl) (pv 0) aG (fun _ _=>rfl)) aE))) aH) (@aA _ _ _ _ _ (@dL _ _ _ _ _ _ _ _ (PT.nox (bX (dY (K:=K) rfl hr) (aM (aV (K:=K) rfl) rfl B.len cH (@aB _ _ _ _ _ _ (pv 0) aE)) aG (cC _))) (@aA _ _ _ _ _ (fO (nL (fun f sp h=>(HV f sp h).mono (by decide)) hr hx (@aZ _ _ _ _ _ _ _ (aO (K:=K) rfl) (pv 0) aG (fun _ _=>rfl)) (@bV _ _ _ _ _ _ _ (@aZ _ _ _ _ _ _ _ (aO (K:=K) rfl) (pv 0) aG (fun _ _=>rfl)) (@bV _ _ _ _ _ _ _ (@aZ _ _ _ _ _ _ _ (aO (K:=K) rfl) (pv 0) aG (fun _ _=>rfl)) aE)))) aH) (@aA _ _ _ _ _ (fO (nL (fun f sp h=>(HV f sp h).mono (by decide)) hr hx (@aZ _ _ _ _ _ _ _ (aO (K:=K) rfl) (pv 0) aG (fun _ _=>rfl)) (@bV _ _ _ _ _ _ _ (@aZ _ _ _ _ _ _ _ (aO (K:=K) rfl) (pv 0) aG (fun _ _=>rfl)) (@bV _ _ _ _ _ _ _ (@aZ _ _ _ _ _ _ _ (aO (K:=K) rfl) (pv 0) aG (fun _ _=>rfl)) (@bV _ _ _ _ _ _ _ (@aZ _ _ _ _ _ _ _ (aO (K:=K) rfl) (pv 0) aG (fun _ _=>rfl)) aE))))) aH)) aH)) aH)) (fun pn a=>(@aA _ _ _ _ _ (@bB _ _ 1 _ _ _ _ nd rfl (Or.inl rfl) (pv 4) (by rfl) (by first | exact .inl rfl | exact .inr rfl | assumption)) aH))) (@aA _ _ _ _ _ (@dL _ _ _ _ _ _ _ _ (bX aAK (pv 1) yX (cC _)) (@aA _ _ _ _ _ (@bO _ _ _ _ kZ) aH) aH) (@aA _ _ _ _ _ (@bB _ _ 2 _ _ _ _ nd rfl (Or.inl rfl) (@dZ _ _ _ _ (@bC _ _ _ _ _ _ _ _ (aM (eP (K:=K) rfl) rfl B.isi fU (@aB _ _ _ _ _ _ (pv 1) (@aB _ _ _ _ _ _ (eY (v := .ref C_NotEven) rfl GC_NotEven rfl) aE))) (@bC _ _ _ _ _ _ _ _ (aM (eP (K:=K) rfl) rfl B.isi fU (@aB _ _ _ _ _ _ (pv 1) (@aB _ _ _ _ _ _ (eY (v := .ref C_NotStraight) rfl GC_NotStraight rfl) aE))) aE))) (by rfl) (by first | exact .inl rfl | exact .inr rfl | assumption)) (@aA _ _ _ _ _ (@bB _ _ 2 _ _ _ _ nd rfl (Or.inl rfl) (@bA _ _ _ _ _ _ _ _ (aY (K:=K) rfl) (pv 2) (@dZ _ _ _ _ (@bC _ _ _ _ _ _ _ _ (aM (eP (K:=K) rfl) rfl B.isi fU (@aB _ _ _ _ _ _ (pv 1) (@aB _ _ _ _ _ _ (eY (v := .ref C_TooFew) rfl GC_TooFew rfl) aE))) (@bC _ _ _ _ _ _ _ _ (aM (eP (K:=K) rfl) rfl B.isi fU (@aB _ _ _ _ _ _ (pv 1) (@aB _ _ _ _ _ _ (eY (v := .ref C_TooMany) rfl GC_TooMany rfl) aE))) aE)))) (by rfl) (by first | exact .inl rfl | exact .inr rfl | assumption)) (@aA _ _ _ _ _ (@bB _ _ 3 _ _ _ _ nd rfl (Or.inl rfl) (aM (eP (K:=K) rfl) rfl B.isi fU (@aB _ _ _ _ _ _ (pv 1) (@kJ _ _ _ _ _ _ _ (@gX _ _ _ _ _ (@aB _ _ _ _ _ _ (eY (v := .ref C_NoBack) rfl GC_NoBack rfl) (@aB _ _ _ _ _ _ (eY (v := .ref C_NoRow) rfl GC_NoRow rfl) (@aB _ _ _ _ _ _ (eY (v := .ref C_NoTable) rfl GC_NoTable rfl) (@aB _ _ _ _ _ _ (eY (v := .ref C_NoText) rfl GC_NoText rfl) aE))))) aE))) (by rfl) (by first | exact .inl rfl | exact .inr rfl | assumption)) (@aA _ _ _ _ _ (@dL _ _ _ _ _ _ _ _ (PW.pt (pT (bX (pK (K:=K) rfl hr) (lI (K:=K) rfl PySem.F.plainAttrs_list PySem.F.slot_list_count PySem.F.type_list_count aBC (pv 2) (@bE _ _ _ _ _ _ _ jV aE)) aG (cC _)) (pT (zH (K:=K) rfl (pv 3) (fun _=>rfl)) (mV (fJ (fI (aM (eP (K:=K) rfl) rfl B.isi fU (@aB _ _ _ _ _ _ (pv 1) (@aB _ _ _ _ _ _ (jC (v := .ty "ValueError") rfl GV oB rfl) aE))))))))) (@aA _ _ _ _ _ (@bO _ _ _ _ kZ) aH) aH) (@aA _ _ _ _ _ (@bO _ _ _ _ (@aZ _ _ _ _ _ _ _ (aO (K:=K) rfl) (@dZ _ _ _ _ (@bE _ _ _ _ _ _ _ kZ (@bE _ _ _ _ _ _ _ kZ (@bE _ _ _ _ _ _ _ kZ (@bE _ _ _ _ _ _ _ kZ aE))))) (lI (K:=K) rfl PySem.F.plainAttrs_list PySem.F.slot_list_index PySem.F.type_list_index aAB (pv 2) (@bE _ _ _ _ _ _ _ jV aE)) (fun _ _=>rfl))) aH))))))))
theorem fV:bP ["many","thing"] ["many","thing"] (aK (top 26)):=⟨rfl,rfl,rfl,by decide +kernel,rfl,by decide +kernel,by decide +kernel⟩
noncomputable def gR (K:PySem.W.Frag)  (bI:Sp):TS:=(aR (eM (tOr (sA (tB (tCB (zS K) (aC (aD 1) (aC (tC (.ty "tuple")) aS))))) (cB (tOp (zA K) (tCB (jU K) (aC (aD 1) aS)) (tC (.int 2))))) (aR (eX (tC (.bl false))) aL) aL) (aR (eM (tOr (sA (tB (cA bI [] E0 (aC (tOp (aX K) (aD 1) (tC (.int 0))) aS)))) (sA (tB (cA bI [] E0 (aC (tOp (aX K) (aD 1) (tC (.int 1))) aS))))) (aR (eX (tC (.bl false))) aL) aL) (aR (eX (rJ yLe yLt yLt (tC (.int 0)) (tOp (aX K) (aD 1) (tC (.int 0))) (tOp (aX K) (aD 1) (tC (.int 1))) (aD 0))) aL)))
theorem kU (F:Fun K "_law_cis_tie" "_law_cis_tie" (top 26) f fd)(B:lQ mg)    {bI:Sp}(cE:Def P w K mg base "_law_cwhole" 1 ["thing"] bI)  {sp:Sp}(len:∀ vs H Q E,sp vs H Q E→vs.length=2)
  (rd:∀ vs H Q E,sp vs H Q E→gR K  bI { nx:=fun _ H'=>Q .non H',rt:=Q } (bQ ["many","thing"] vs) H):FnOk P w K mg base CX0 2 f fd ["many","thing"] sp:=by
 refine F.ok fV len (fun cdv A outer s H vs Q E hr h=>⟨_,?_,rd vs H Q E h⟩)
 have nd:=fV.nd
 exact (@aA _ _ _ _ _ (@dL _ _ _ _ _ _ _ _ (PW.pt (pT (fJ (fI (aM (fW (K:=K) rfl) rfl B.isi fU (@aB _ _ _ _ _ _ (pv 1) (@aB _ _ _ _ _ _ (jC (v := .ty "tuple") rfl B.tuple eW rfl) aE))))) (mV (bX (pK (K:=K) rfl hr) (aM (aV (K:=K) rfl) rfl B.len cH (@aB _ _ _ _ _ _ (pv 1) aE)) aG (cC _))))) (@aA _ _ _ _ _ (@bO _ _ _ _ jV) aH) aH) (@aA _ _ _ _ _ (@dL _ _ _ _ _ _ _ _ (PW.pt (pT (fJ (fI (bS (cE.mono (by decide)) hr rfl (@bV _ _ _ _ _ _ _ (@aZ _ _ _ _ _ _ _ (aO (K:=K) rfl) (pv 1) aG (fun _ _=>rfl)) aE)))) (mV (fJ (fI (bS (cE.mono (by decide)) hr rfl (@bV _ _ _ _ _ _ _ (@aZ _ _ _ _ _ _ _ (aO (K:=K) rfl) (pv 1) aG (fun _ _=>rfl)) aE))))))) (@aA _ _ _ _ _ (@bO _ _ _ _ jV) aH) aH) (@aA _ _ _ _ _ (@bO _ _ _ _ (vI aCr wJ wJ aG (@aZ _ _ _ _ _ _ _ (aO (K:=K) rfl) (pv 1) aG (fun _ _=>rfl)) (@aZ _ _ _ _ _ _ _ (aO (K:=K) rfl) (pv 1) aG (fun _ _=>rfl)) (pv 0))) aH)))
theorem jQ:bP ["table","ties"] ["table","ties"] (aK (top 27)):=⟨rfl,rfl,rfl,by decide +kernel,rfl,by decide +kernel,by decide +kernel⟩
noncomputable def lH (K:PySem.W.Frag)   : TS:=(aR (eX (tCB (aCX K) (aC (kX [none,none,some 0] (wH K (aD 1)) (aBv K 2 (rB (aN 0) (rB (aN 1) aBK))) [] fun acc=>(jT (tOp (aX K) (tOp (aX K) (aD 2) (aD 0)) (aD 1)) acc)) aS))) aL)
theorem oX (F:Fun K "_law_csum" "_law_csum" (top 27) f fd)(B:lQ mg)      {sp:Sp}(len:∀ vs H Q E,sp vs H Q E→vs.length=2)
  (rd:∀ vs H Q E,sp vs H Q E→lH K   { nx:=fun _ H'=>Q .non H',rt:=Q } (bQ ["table","ties"] vs) H):FnOk P w K mg base CX0 1 f fd ["table","ties"] sp:=by
 refine F.ok jQ len (fun cdv A outer s H vs Q E hr h=>⟨_,?_,rd vs H Q E h⟩)
 have nd:=jQ.nd
 exact (@aA _ _ _ _ _ (@bO _ _ _ _ (aM (uF (K:=K) rfl rfl) rfl B.sum aAW (dG (lM (N':=["i","j","table"]) (ix:=[none,none,some 0]) rfl rfl rfl (hX (K:=K) rfl (pv 1)) (fun _ _ _=>(rF (K:=K) rfl rfl (gH (bR (i:=0) (show (["i","j","table"]:List Str).Nodup from by decide +kernel) rfl (Or.inl rfl)) (gH (bR (i:=1) (show (["i","j","table"]:List Str).Nodup from by decide +kernel) rfl (Or.inl rfl)) qO)))) (fun _ _ _ => .nil) (fun _ _ _ _=>(gA rfl (@aZ _ _ _ _ _ _ _ (aO (K:=K) rfl) (@aZ _ _ _ _ _ _ _ (aO (K:=K) rfl) (pv 2) (pv 0) (fun _ _=>rfl)) (pv 1) (fun _ _=>rfl)) rfl))) aE))) aH)
theorem gY:bP ["feed","some","left","found"] ["feed","some"] (aK (top 28)):=⟨rfl,rfl,rfl,by decide +kernel,rfl,by decide +kernel,by decide +kernel⟩
noncomputable def iK (K:PySem.W.Frag)  (aI:Sp):TS:=(aR (bW (tCB (rL K) (aC (aD 1) aS)) (aN 2)) (aR (bW (nW aS) (aN 3)) (aR (zB (cB (tOp (zA K) (aD 2) (nW aS))) (aR (nP (tBM K "list" kN (aD 3) (aC (tBM K "list" yV (aD 2) (aC (cA aI [] E0 (aC (aD 0) (aC (tCB (jU K) (aC (aD 2) aS)) aS))) aS)) aS))) aL)) (aR (eX (aD 3)) aL))))
theorem lW (F:Fun K "_law_corder" "_law_corder" (top 28) f fd)(B:lQ mg)    {aI:Sp}(aT:Def P w K mg base "_law_cdraw" 2 ["feed","many"] aI)  {sp:Sp}(len:∀ vs H Q E,sp vs H Q E→vs.length=2)
  (rd:∀ vs H Q E,sp vs H Q E→iK K  aI { nx:=fun _ H'=>Q .non H',rt:=Q } (bQ ["feed","some","left","found"] vs) H):FnOk P w K mg base CX0 3 f fd ["feed","some"] sp:=by
 refine F.ok gY len (fun cdv A outer s H vs Q E hr h=>⟨_,?_,rd vs H Q E h⟩)
 have nd:=gY.nd
 exact (@aA _ _ _ _ _ (@bB _ _ 2 _ _ _ _ nd rfl (Or.inl rfl) (bZ (dO (K:=K) rfl rfl) rfl B.list hU (@aB _ _ _ _ _ _ (pv 1) aE)) (by rfl) (by first | exact .inl rfl | exact .inr rfl | assumption)) (@aA _ _ _ _ _ (@bB _ _ 3 _ _ _ _ nd rfl (Or.inl rfl) (@dZ _ _ _ _ aE) (by rfl) (by first | exact .inl rfl | exact .inr rfl | assumption)) (@aA _ _ _ _ _ (yF PassesOwn.never (bX (pK (K:=K) rfl hr) (pv 2) (@dZ _ _ _ _ aE) (cC _)) (@aA _ _ _ _ _ (fO (lI (K:=K) rfl PySem.F.plainAttrs_list PySem.F.slot_list_append PySem.F.type_list_append fP (pv 3) (@bC _ _ _ _ _ _ _ _ (lI (K:=K) rfl PySem.F.plainAttrs_list PySem.F.slot_list_pop PySem.F.type_list_pop xT (pv 2) (@bC _ _ _ _ _ _ _ _ (bS (aT.mono (by decide)) hr rfl (@aB _ _ _ _ _ _ (pv 0) (@bC _ _ _ _ _ _ _ _ (aM (aV (K:=K) rfl) rfl B.len cH (@aB _ _ _ _ _ _ (pv 2) aE)) aE))) aE)) aE))) aH)) (@aA _ _ _ _ _ (@bO _ _ _ _ (pv 3)) aH))))
theorem dI:bP ["table","some","found","at","left"] ["table","some"] (aK (top 29)):=⟨rfl,rfl,rfl,by decide +kernel,rfl,by decide +kernel,by decide +kernel⟩
noncomputable def dQ (K:PySem.W.Frag)  (aU:Sp):TS:=(aR (eM (cB (tOp (gF K) (tCB (jU K) (aC (aD 1) aS)) (tC (.int 0)))) (aR (eX (tC (.int 0))) aL) aL) (aR (bW (nW aS) (aN 2)) (aR (qN (wS (aC (tC (.int 1)) (aC (tCB (jU K) (aC (aD 1) aS)) aS))) (aN 3) (aR (bW (cA aU [] E0 (aC (aD 0) (aC (tOp (bJ K) (tSl (mH K) (aD 1) (dF (tC (.int 1))) (dF (aD 3))) (tSl (mH K) (aD 1) (dF (tOp (bJ K) (aD 3) (tC (.int 1)))) cI)) aS))) (aN 4)) (aR (nP (tBM K "list" kN (aD 2) (aC (tOp (bJ K) (aD 4) (tOp (aX K) (tOp (aX K) (aD 0) (tOp (aX K) (aD 1) (tC (.int 0)))) (tOp (aX K) (aD 1) (aD 3)))) aS))) aL))) (aR (eX (tCB (aAV K) (aC (aD 2) aS))) aL))))
theorem gK (F:Fun K "_law_cpairing_sum" "_law_cpairing_sum" (top 29) f fd)(B:lQ mg)    {k:Nat}(hk:1≤k){aU:Sp}(bU:Def P w K mg base "_law_cpairing_sum" k ["table","some"] aU)  {sp:Sp}(len:∀ vs H Q E,sp vs H Q E→vs.length=2)
  (rd:∀ vs H Q E,sp vs H Q E→dQ K  aU { nx:=fun _ H'=>Q .non H',rt:=Q } (bQ ["table","some","found","at","left"] vs) H):FnOk P w K mg base CX0 (k+1) f fd ["table","some"] sp:=by
 refine F.ok dI len (fun cdv A outer s H vs Q E hr h=>⟨_,?_,rd vs H Q E h⟩)
 have nd:=dI.nd
 exact (@aA _ _ _ _ _ (@dL _ _ _ _ _ _ _ _ (bX (dY (K:=K) rfl hr) (aM (aV (K:=K) rfl) rfl B.len cH (@aB _ _ _ _ _ _ (pv 1) aE)) aG (cC _)) (@aA _ _ _ _ _ (@bO _ _ _ _ aG) aH) aH) (@aA _ _ _ _ _ (@bB _ _ 2 _ _ _ _ nd rfl (Or.inl rfl) (@dZ _ _ _ _ aE) (by rfl) (by first | exact .inl rfl | exact .inr rfl | assumption)) (@aA _ _ _ _ _ (gB PassesOwn.never rfl (kO rfl B.range (@bE _ _ _ _ _ _ _ aG (@bC _ _ _ _ _ _ _ _ (aM (aV (K:=K) rfl) rfl B.len cH (@aB _ _ _ _ _ _ (pv 1) aE)) aE))) (bR (i:=3) nd rfl (Or.inl rfl)) (@aA _ _ _ _ _ (@bB _ _ 4 _ _ _ _ nd rfl (Or.inl rfl) (bS (bU.mono (Nat.le_refl _)) hr rfl (@aB _ _ _ _ _ _ (pv 0) (@cL _ _ _ _ _ _ _ _ (@bA _ _ _ _ _ _ _ _ (aY (K:=K) rfl) (cZ (lS (K:=K) rfl) (pv 1) (dE aG) (dE (pv 3))) (cZ (lS (K:=K) rfl) (pv 1) (dE (@bA _ _ _ _ _ _ _ _ (aY (K:=K) rfl) (pv 3) aG)) fS)) aE))) (by rfl) (by first | exact .inl rfl | exact .inr rfl | assumption)) (@aA _ _ _ _ _ (fO (lI (K:=K) rfl PySem.F.plainAttrs_list PySem.F.slot_list_append PySem.F.type_list_append fP (pv 2) (@cL _ _ _ _ _ _ _ _ (@bA _ _ _ _ _ _ _ _ (aY (K:=K) rfl) (pv 4) (@aZ _ _ _ _ _ _ _ (aO (K:=K) rfl) (@aZ _ _ _ _ _ _ _ (aO (K:=K) rfl) (pv 0) (@aZ _ _ _ _ _ _ _ (aO (K:=K) rfl) (pv 1) aG (fun _ _=>rfl)) (fun _ _=>rfl)) (@aZ _ _ _ _ _ _ _ (aO (K:=K) rfl) (pv 1) (pv 3) (fun _ _=>rfl)) (fun _ _=>rfl))) aE))) aH))) (@aA _ _ _ _ _ (@bO _ _ _ _ (aM (tH (K:=K) rfl hr rfl) rfl B.min rQ (@aB _ _ _ _ _ _ (pv 2) aE))) aH))))
theorem dP:bP ["many","pairs","some","ends","pair"] ["many","pairs","some"] (aK (top 30)):=⟨rfl,rfl,rfl,by decide +kernel,rfl,by decide +kernel,by decide +kernel⟩
noncomputable def eD (K:PySem.W.Frag)  (cT:Sp):TS:=(aR (eM (sA (tB (tCB (zS K) (aC (aD 1) (aC (tC (.ty "list")) aS))))) (aR (eX (tC (.bl false))) aL) aL) (aR (bW (nW aS) (aN 3)) (aR (qN (wH K (aD 1)) (aN 4) (aR (eM (sA (tB (cA cT [] E0 (aC (aD 0) (aC (aD 4) aS))))) (aR (eX (tC (.bl false))) aL) aL) (aR (bW (tOp (bJ K) (aD 3) (tCB (rL K) (aC (aD 4) aS))) (aN 3)) aL))) (aR (eX (xP (tOp (gF K) (aD 1) (tCB (pD K) (aC (aD 1) aS))) (tOp (gF K) (tCB (pD K) (aC (aD 3) aS)) (tCB (pD K) (aC (aD 2) aS))))) aL))))
theorem hJ (F:Fun K "_law_cis_pairing" "_law_cis_pairing" (top 30) f fd)(B:lQ mg)    {cT:Sp}(eK:Def P w K mg base "_law_cis_tie" 2 ["many","thing"] cT)  {sp:Sp}(len:∀ vs H Q E,sp vs H Q E→vs.length=3)
  (rd:∀ vs H Q E,sp vs H Q E→eD K  cT { nx:=fun _ H'=>Q .non H',rt:=Q } (bQ ["many","pairs","some","ends","pair"] vs) H):FnOk P w K mg base CX0 3 f fd ["many","pairs","some"] sp:=by
 refine F.ok dP len (fun cdv A outer s H vs Q E hr h=>⟨_,?_,rd vs H Q E h⟩)
 have nd:=dP.nd
 exact (@aA _ _ _ _ _ (@dL _ _ _ _ _ _ _ _ (fJ (fI (aM (fW (K:=K) rfl) rfl B.isi fU (@aB _ _ _ _ _ _ (pv 1) (@aB _ _ _ _ _ _ (jC (v := .ty "list") rfl B.list hU rfl) aE))))) (@aA _ _ _ _ _ (@bO _ _ _ _ jV) aH) aH) (@aA _ _ _ _ _ (@bB _ _ 3 _ _ _ _ nd rfl (Or.inl rfl) (@dZ _ _ _ _ aE) (by rfl) (by first | exact .inl rfl | exact .inr rfl | assumption)) (@aA _ _ _ _ _ (gB PassesOwn.never rfl (hX (K:=K) rfl (pv 1)) (bR (i:=4) nd rfl (Or.inl rfl)) (@aA _ _ _ _ _ (@dL _ _ _ _ _ _ _ _ (fJ (fI (bS (eK.mono (by decide)) hr rfl (@aB _ _ _ _ _ _ (pv 0) (@aB _ _ _ _ _ _ (pv 4) aE))))) (@aA _ _ _ _ _ (@bO _ _ _ _ jV) aH) aH) (@aA _ _ _ _ _ (@bB _ _ 3 _ _ _ _ nd rfl (Or.inl rfl) (@bA _ _ _ _ _ _ _ _ (aY (K:=K) rfl) (pv 3) (bZ (dO (K:=K) rfl rfl) rfl B.list hU (@aB _ _ _ _ _ _ (pv 4) aE))) (by rfl) (by first | exact .inl rfl | exact .inr rfl | assumption)) aH))) (@aA _ _ _ _ _ (@bO _ _ _ _ (uY (iY (dY (K:=K) rfl hr) (pv 1) (aM (eS (K:=K) rfl) rfl B.sorted iS (@aB _ _ _ _ _ _ (pv 1) aE)) (cC _)) (tY (iY (dY (K:=K) rfl hr) (aM (eS (K:=K) rfl) rfl B.sorted iS (@aB _ _ _ _ _ _ (pv 3) aE)) (aM (eS (K:=K) rfl) rfl B.sorted iS (@aB _ _ _ _ _ _ (pv 2) aE)) (cC _))))) aH))))
theorem fT:bP ["table","some","told","due"] ["table","some","told"] (aK (top 31)):=⟨rfl,rfl,rfl,by decide +kernel,rfl,by decide +kernel,by decide +kernel⟩
noncomputable def gU (K:PySem.W.Frag)  (cF:Sp) (aU:Sp) (eG:Sp) (bI:Sp):TS:=(aR (eM (tOr (sA (tB (tCB (zS K) (aC (aD 2) (aC (tC (.ty "tuple")) aS))))) (tOr (cB (tOp (zA K) (tCB (jU K) (aC (aD 2) aS)) (tC (.int 2)))) (sA (tB (cA bI [] E0 (aC (tOp (aX K) (aD 2) (tC (.int 0))) aS)))))) (aR (eX (tC (.bl false))) aL) aL) (aR (eM (sA (tB (cA cF [] E0 (aC (tCB (jU K) (aC (aD 0) aS)) (aC (tOp (aX K) (aD 2) (tC (.int 1))) (aC (aD 1) aS)))))) (aR (eX (tC (.bl false))) aL) aL) (aR (bW (cA aU [] E0 (aC (aD 0) (aC (tCB (rL K) (aC (aD 1) aS)) aS))) (aN 3)) (aR (eX (xP (tOp (gF K) (tOp (aX K) (aD 2) (tC (.int 0))) (aD 3)) (tOp (gF K) (cA eG [] E0 (aC (aD 0) (aC (tOp (aX K) (aD 2) (tC (.int 1))) aS))) (aD 3)))) aL))))
theorem lD (F:Fun K "_law_c_right" "_law_c_right" (top 31) f fd)(B:lQ mg)    {cF:Sp}(cU:Def P w K mg base "_law_cis_pairing" 3 ["many","pairs","some"] cF){aU:Sp}(bU:Def P w K mg base "_law_cpairing_sum" 6 ["table","some"] aU){eG:Sp}(iC:Def P w K mg base "_law_csum" 1 ["table","ties"] eG){bI:Sp}(cE:Def P w K mg base "_law_cwhole" 1 ["thing"] bI)  {sp:Sp}(len:∀ vs H Q E,sp vs H Q E→vs.length=3)
  (rd:∀ vs H Q E,sp vs H Q E→gU K  cF aU eG bI { nx:=fun _ H'=>Q .non H',rt:=Q } (bQ ["table","some","told","due"] vs) H):FnOk P w K mg base CX0 7 f fd ["table","some","told"] sp:=by
 refine F.ok fT len (fun cdv A outer s H vs Q E hr h=>⟨_,?_,rd vs H Q E h⟩)
 have nd:=fT.nd
 exact (@aA _ _ _ _ _ (@dL _ _ _ _ _ _ _ _ (PW.pt (pT (fJ (fI (aM (fW (K:=K) rfl) rfl B.isi fU (@aB _ _ _ _ _ _ (pv 2) (@aB _ _ _ _ _ _ (jC (v := .ty "tuple") rfl B.tuple eW rfl) aE))))) (pT (bX (pK (K:=K) rfl hr) (aM (aV (K:=K) rfl) rfl B.len cH (@aB _ _ _ _ _ _ (pv 2) aE)) aG (cC _)) (mV (fJ (fI (bS (cE.mono (by decide)) hr rfl (@bV _ _ _ _ _ _ _ (@aZ _ _ _ _ _ _ _ (aO (K:=K) rfl) (pv 2) aG (fun _ _=>rfl)) aE)))))))) (@aA _ _ _ _ _ (@bO _ _ _ _ jV) aH) aH) (@aA _ _ _ _ _ (@dL _ _ _ _ _ _ _ _ (fJ (fI (bS (cU.mono (by decide)) hr rfl (@bC _ _ _ _ _ _ _ _ (aM (aV (K:=K) rfl) rfl B.len cH (@aB _ _ _ _ _ _ (pv 0) aE)) (@bV _ _ _ _ _ _ _ (@aZ _ _ _ _ _ _ _ (aO (K:=K) rfl) (pv 2) aG (fun _ _=>rfl)) (@aB _ _ _ _ _ _ (pv 1) aE)))))) (@aA _ _ _ _ _ (@bO _ _ _ _ jV) aH) aH) (@aA _ _ _ _ _ (@bB _ _ 3 _ _ _ _ nd rfl (Or.inl rfl) (bS (bU.mono (by decide)) hr rfl (@aB _ _ _ _ _ _ (pv 0) (@bC _ _ _ _ _ _ _ _ (bZ (dO (K:=K) rfl rfl) rfl B.list hU (@aB _ _ _ _ _ _ (pv 1) aE)) aE))) (by rfl) (by first | exact .inl rfl | exact .inr rfl | assumption)) (@aA _ _ _ _ _ (@bO _ _ _ _ (uY (iY (dY (K:=K) rfl hr) (@aZ _ _ _ _ _ _ _ (aO (K:=K) rfl) (pv 2) aG (fun _ _=>rfl)) (pv 3) (cC _)) (tY (iY (dY (K:=K) rfl hr) (bS (iC.mono (by decide)) hr rfl (@aB _ _ _ _ _ _ (pv 0) (@bV _ _ _ _ _ _ _ (@aZ _ _ _ _ _ _ _ (aO (K:=K) rfl) (pv 2) aG (fun _ _=>rfl)) aE))) (pv 3) (cC _))))) aH))))
theorem yR:bP ["script","feed","turn","table","order","most","many","some","again","told","other","bent"] ["script"] (aK (top 32)):=⟨rfl,rfl,rfl,by decide +kernel,rfl,by decide +kernel,by decide +kernel⟩
noncomputable def aAP (K:PySem.W.Frag) (C_pairing:Addr) (cK:Sp) (aI:Sp) (cV:Sp) (dN:Sp) (dB:Sp) (cQ:Sp) (cW:Sp) (eQ:Sp):TS:=(aR (bW (cA dN [] E0 (aC (aD 0) aS)) (aN 1)) (aR (qN (jX (aC (tC (.int 3)) aS)) (aN 2) (aR (bW (cA cV [] E0 (aC (aD 1) (aC (tC (.int 1)) (aC (tC (.int 8)) aS)))) (aN 3)) (aR (bW (cA dB [] E0 (aC (aD 1) (aC (tCB (rL K) (aC (tCB aCQ (aC (tCB (jU K) (aC (aD 3) aS)) aS)) aS)) aS))) (aN 4)) (aR (bW (tOp fN (tC (.int 2)) (tOp tM (tCB (jU K) (aC (aD 3) aS)) (tC (.int 2)))) (aN 5)) (aR (qN (wH K (nW (aC (tOp fN (tC (.int 2)) (cA aI [] E0 (aC (aD 1) (aC (tOp (bJ K) (tOp tM (aD 5) (tC (.int 2))) (tC (.int 1))) aS)))) (aC (tC (.int 0)) (aC (aD 5) aS))))) (aN 6) (aR (bW (tCB (jJ K) (aC (tCB (pD K) (aC (tSl (mH K) (aD 4) cI (dF (aD 6))) aS)) aS)) (aN 7)) (aR (qN (jX (aC (tC (.int 2)) aS)) (aN 8) (aR (bW (cA eQ [] E0 (aC (aD 3) (aC (aD 7) aS))) (aN 9)) (aR (eM (sA (tB (cA cK [] E0 (aC (aD 3) (aC (aD 7) (aC (aD 9) aS)))))) (aR (eX (tC (.bl false))) aL) aL) (aR (nP (tBM K "list" kN (tOp (aX K) (aD 9) (tC (.int 1))) (aC (tC (.int 0)) aS))) (aR (bW (cA cV [] E0 (aC (aD 1) (aC (tCB (jU K) (aC (aD 3) aS)) (aC (tCB (jU K) (aC (aD 3) aS)) aS)))) (aN 10)) (aR (eM (sA (tB (cA cK [] E0 (aC (aD 10) (aC (aD 7) (aC (cA eQ [] E0 (aC (aD 10) (aC (aD 7) aS))) aS)))))) (aR (eX (tC (.bl false))) aL) aL) aL)))))) (aR (eM (cB (tOp yGt (tCB (jU K) (aC (aD 3) aS)) (tC (.int 1)))) (aR (bW (cA cW [] E0 (aC (aD 1) (aC (aD 3) aS))) (aN 11)) (aR (eM (cB (tOp (zA K) (cA cQ [] E0 (aC (qF (aC (tC (.ref C_pairing)) (aC (aD 11) (aC (aD 7) aS)))) aS)) (tC (.str "even")))) (aR (eX (tC (.bl false))) aL) aL) aL)) aL) aL)))) aL))))) (aR (eX (tC (.bl true))) aL)))
theorem aBr (F:Fun K "law" "law" (top 32) f fd)(B:lQ mg)  {C_pairing:Addr}(GC_pairing:mg "pairing" = some (.ref C_pairing))  {cK:Sp}(dC:Def P w K mg base "_law_c_right" 7 ["table","some","told"] cK){aI:Sp}(aT:Def P w K mg base "_law_cdraw" 2 ["feed","many"] aI){cV:Sp}(eH:Def P w K mg base "_law_ceven" 3 ["feed","least","most"] cV){dN:Sp}(gC:Def P w K mg base "_law_copen" 1 ["script"] dN){dB:Sp}(fG:Def P w K mg base "_law_corder" 3 ["feed","some"] dB){cQ:Sp}(eA:Def P w K mg base "_law_crefused" 9 ["act"] cQ){cW:Sp}(eL:Def P w K mg base "_law_cuneven" 3 ["feed","table"] cW){eQ:Sp}(eR:DefX P w K mg base "pairing" 7 ["table","some"] eQ){sp:Sp}(len:∀ vs H Q E,sp vs H Q E→vs.length=1)
  (rd:∀ vs H Q E,sp vs H Q E→aAP K C_pairing cK aI cV dN dB cQ cW eQ { nx:=fun _ H'=>Q .non H',rt:=Q } (bQ ["script","feed","turn","table","order","most","many","some","again","told","other","bent"] vs) H):FnOk P w K mg base CX0 10 f fd ["script"] sp:=by
 refine F.ok yR len (fun cdv A outer s H vs Q E hr h=>⟨_,?_,rd vs H Q E h⟩)
 have nd:=yR.nd
 exact (@aA _ _ _ _ _ (@bB _ _ 1 _ _ _ _ nd rfl (Or.inl rfl) (bS (gC.mono (by decide)) hr rfl (@aB _ _ _ _ _ _ (pv 0) aE)) (by rfl) (by first | exact .inl rfl | exact .inr rfl | assumption)) (@aA _ _ _ _ _ (gB PassesOwn.never rfl (cM rfl B.range (@bE _ _ _ _ _ _ _ aG aE)) (bR (i:=2) nd rfl (Or.inl rfl)) (@aA _ _ _ _ _ (@bB _ _ 3 _ _ _ _ nd rfl (Or.inl rfl) (bS (eH.mono (by decide)) hr rfl (@aB _ _ _ _ _ _ (pv 1) (@bE _ _ _ _ _ _ _ aG (@bE _ _ _ _ _ _ _ aG aE)))) (by rfl) (by first | exact .inl rfl | exact .inr rfl | assumption)) (@aA _ _ _ _ _ (@bB _ _ 4 _ _ _ _ nd rfl (Or.inl rfl) (bS (fG.mono (by decide)) hr rfl (@aB _ _ _ _ _ _ (pv 1) (@bC _ _ _ _ _ _ _ _ (bZ (dO (K:=K) rfl rfl) rfl B.list hU (@bC _ _ _ _ _ _ _ _ (bZ uA rfl B.range xB (@bC _ _ _ _ _ _ _ _ (aM (aV (K:=K) rfl) rfl B.len cH (@aB _ _ _ _ _ _ (pv 3) aE)) aE)) aE)) aE))) (by rfl) (by first | exact .inl rfl | exact .inr rfl | assumption)) (@aA _ _ _ _ _ (@bB _ _ 5 _ _ _ _ nd rfl (Or.inl rfl) (@bA _ _ _ _ _ _ _ _ cX aG (@bA _ _ _ _ _ _ _ _ oJ (aM (aV (K:=K) rfl) rfl B.len cH (@aB _ _ _ _ _ _ (pv 3) aE)) aG)) (by rfl) (by first | exact .inl rfl | exact .inr rfl | assumption)) (@aA _ _ _ _ _ (@gB _ _ _ _ _ _ _ _ PassesOwn.never rfl (@hX _ K _ _ _ rfl (@dZ _ _ _ _ (@cL _ _ _ _ _ _ _ _ (@bA _ _ _ _ _ _ _ _ cX aG (bS (aT.mono (by decide)) hr rfl (@aB _ _ _ _ _ _ (pv 1) (@cL _ _ _ _ _ _ _ _ (@bA _ _ _ _ _ _ _ _ (aY (K:=K) rfl) (@bA _ _ _ _ _ _ _ _ oJ (pv 5) aG) aG) aE)))) (@bE _ _ _ _ _ _ _ aG (@aB _ _ _ _ _ _ (pv 5) aE))))) (bR (i:=6) nd rfl (Or.inl rfl)) (@aA _ _ _ _ _ (@bB _ _ 7 _ _ _ _ nd rfl (Or.inl rfl) (bZ (dW (K:=K) rfl) rfl B.tuple eW (@bC _ _ _ _ _ _ _ _ (aM (eS (K:=K) rfl) rfl B.sorted iS (@bV _ _ _ _ _ _ _ (cZ (lS (K:=K) rfl) (pv 4) fS (dE (pv 6))) aE)) aE)) (by rfl) (by first | exact .inl rfl | exact .inr rfl | assumption)) (@aA _ _ _ _ _ (gB PassesOwn.never rfl (cM rfl B.range (@bE _ _ _ _ _ _ _ aG aE)) (bR (i:=8) nd rfl (Or.inl rfl)) (@aA _ _ _ _ _ (@bB _ _ 9 _ _ _ _ nd rfl (Or.inl rfl) (qX (eR.mono (by decide)) hr rfl vX (@aB _ _ _ _ _ _ (pv 3) (@aB _ _ _ _ _ _ (pv 7) aE))) (by rfl) (by first | exact .inl rfl | exact .inr rfl | assumption)) (@aA _ _ _ _ _ (@dL _ _ _ _ _ _ _ _ (fJ (fI (bS (dC.mono (by decide)) hr rfl (@aB _ _ _ _ _ _ (pv 3) (@aB _ _ _ _ _ _ (pv 7) (@aB _ _ _ _ _ _ (pv 9) aE)))))) (@aA _ _ _ _ _ (@bO _ _ _ _ jV) aH) aH) (@aA _ _ _ _ _ (fO (lI (K:=K) rfl PySem.F.plainAttrs_list PySem.F.slot_list_append PySem.F.type_list_append fP (@aZ _ _ _ _ _ _ _ (aO (K:=K) rfl) (pv 9) aG (fun _ _=>rfl)) (@bE _ _ _ _ _ _ _ aG aE))) (@aA _ _ _ _ _ (@bB _ _ 10 _ _ _ _ nd rfl (Or.inl rfl) (bS (eH.mono (by decide)) hr rfl (@aB _ _ _ _ _ _ (pv 1) (@bC _ _ _ _ _ _ _ _ (aM (aV (K:=K) rfl) rfl B.len cH (@aB _ _ _ _ _ _ (pv 3) aE)) (@bC _ _ _ _ _ _ _ _ (aM (aV (K:=K) rfl) rfl B.len cH (@aB _ _ _ _ _ _ (pv 3) aE)) aE)))) (by rfl) (by first | exact .inl rfl | exact .inr rfl | assumption)) (@aA _ _ _ _ _ (@dL _ _ _ _ _ _ _ _ (fJ (fI (bS (dC.mono (by decide)) hr rfl (@aB _ _ _ _ _ _ (pv 10) (@aB _ _ _ _ _ _ (pv 7) (@bC _ _ _ _ _ _ _ _ (qX (eR.mono (by decide)) hr rfl vX (@aB _ _ _ _ _ _ (pv 10) (@aB _ _ _ _ _ _ (pv 7) aE))) aE)))))) (@aA _ _ _ _ _ (@bO _ _ _ _ jV) aH) aH) aH)))))) (@aA _ _ _ _ _ (@dL _ _ _ _ _ _ _ _ (bX zQ (aM (aV (K:=K) rfl) rfl B.len cH (@aB _ _ _ _ _ _ (pv 3) aE)) aG (cC _)) (@aA _ _ _ _ _ (@bB _ _ 11 _ _ _ _ nd rfl (Or.inl rfl) (bS (eL.mono (by decide)) hr rfl (@aB _ _ _ _ _ _ (pv 1) (@aB _ _ _ _ _ _ (pv 3) aE))) (by rfl) (by first | exact .inl rfl | exact .inr rfl | assumption)) (@aA _ _ _ _ _ (@dL _ _ _ _ _ _ _ _ (bX (pK (K:=K) rfl hr) (bS (eA.mono (by decide)) hr rfl (@kJ _ _ _ _ _ _ _ (@gX _ _ _ _ _ (@aB _ _ _ _ _ _ (eY (v := .ref C_pairing) rfl GC_pairing rfl) (@aB _ _ _ _ _ _ (pv 11) (@aB _ _ _ _ _ _ (pv 7) aE)))) aE)) kZ (cC _)) (@aA _ _ _ _ _ (@bO _ _ _ _ jV) aH) aH) aH)) aH) aH))) (by intro _;rfl)) aH))))) (@aA _ _ _ _ _ (@bO _ _ _ _ jV) aH)))
end
end K45
namespace K45
open PySem L2
inductive Gr:List Nat→List (Nat × Nat)→Prop
 | one (r:Nat):Gr [r] []
 | more {vs:List Nat} {es:List (Nat × Nat)} {p c:Nat}:Gr vs es→p∈vs→c∉vs→Gr (vs++[c]) (es++[(p,c)])
theorem Gr.len {vs:List Nat}{es:List (Nat × Nat)}(h:Gr vs es):vs.length=es.length+1:=by
 induction h with
 | one r=>rfl
 | more _ _ _ ih=>rw [List.length_append,List.length_append,ih];rfl
theorem Gr.nd {vs:List Nat}{es:List (Nat × Nat)}(h:Gr vs es):vs.Nodup:=by
 induction h with
 | one r=>simp
 | more _ _ hc ih=>
  rw [List.nodup_append]
  exact ⟨ih,by simp,fun a ha b hb e=>hc (by rw [← List.mem_singleton.mp hb,← e];exact ha)⟩
end K45
namespace K45
open PySem L2
theorem aCn {x:Int}{a b:Nat}(hx:x.natAbs<2 ^ a)(h:a≤b):x.natAbs<2 ^ b:=Nat.lt_of_lt_of_le hx (Nat.pow_le_pow_right (by decide) h)
theorem sF {a m j:Int}(h0:0<m)(h1:m≤4611686018427387904):CMul (a % m) j := .inl ⟨by have:=Int.emod_nonneg a (show m≠0 by omega);omega,by have:=Int.emod_lt_of_pos a h0;omega⟩
noncomputable def aCN (l:Addr) (k:Nat) (z:Int):HO := .lst [.ref l, .int (k:Int), .int z]
noncomputable def PenAt (H:Hp) (p l:Addr) (ns:List Int) (k:Nat) (z:Int):Prop:=H p=some (aCN l k z)∧H l=some (.lst (ns.map V.int))∧l≠p
noncomputable def Pen (H:Hp) (p l:Addr) (ns:List Int):Prop:=∃ k z,PenAt H p l ns k z
theorem PenAt.put {H:Hp}{p l:Addr}{ns:List Int}{k k':Nat}{z z':Int}(h:PenAt H p l ns k z):PenAt (upd H p (aCN l k' z')) p l ns k' z':=⟨aF,by rw [aP h.2.2];exact h.2.1,h.2.2⟩
theorem PenAt.x {H H':Hp}{p l:Addr}{ns:List Int}{k:Nat}{z:Int}(h:PenAt H p l ns k z)(s:Same H H'):PenAt H' p l ns k z:=⟨s _ _ h.1,s _ _ h.2.1,h.2.2⟩
theorem Pen.x {H H':Hp}{p l:Addr}{ns:List Int}(h:Pen H p l ns)(s:Same H H'):Pen H' p l ns:=by
 obtain ⟨k,z,h⟩:=h
 exact ⟨k,z,h.x s⟩
theorem Pen.ne {H:Hp}{p l:Addr}{ns:List Int}(h:Pen H p l ns){x:Addr}(hx:H x=none):x≠p∧x≠l:=by
 obtain ⟨k,z,h⟩:=h
 exact ⟨fun e=>(by rw [e,h.1] at hx;cases hx),fun e=>(by rw [e,h.2.1] at hx;cases hx)⟩
theorem Pen.upd {H:Hp}{p l:Addr}{ns:List Int}(h:Pen H p l ns){x:Addr}{o:HO}(h1:x≠p)(h2:x≠l):Pen (upd H x o) p l ns:=by
 obtain ⟨k,z,h⟩:=h
 exact ⟨k,z,by rw [aP (Ne.symm h1)];exact h.1,by rw [aP (Ne.symm h2)];exact h.2.1,h.2.2⟩
theorem uR {n a b:Nat}:at2 (List.replicate n (List.replicate n 0)) a b=0:=by
 unfold at2
 have:(List.replicate n (List.replicate n (0:Int))).getD a []=[]∨(List.replicate n (List.replicate n (0:Int))).getD a []=List.replicate n 0:=by
  rw [List.getD_eq_getElem?_getD,List.getElem?_replicate]
  split
  ·exact .inr rfl
  ·exact .inl rfl
 rcases this with e | e
 ·rw [e];rfl
 ·rw [e,List.getD_eq_getElem?_getD,List.getElem?_replicate]
  split <;> rfl
section
variable {K:PySem.W.Frag}
theorem sP {H H':Hp}{a p:Addr}{xs ys:List V}(h:SqT K H a xs)(hp:H p=some (.lst ys))(sx:SameX p H H'):SqT K H' a xs:=by
 rcases h with (h | ⟨ob,h⟩) | h
 ·exact .inl (.inl (sx _ _ (ne_of h hp (fun z=>nomatch z)) h))
 ·exact .inl (.inr ⟨ob,sx _ _ (ne_of h hp (fun z=>nomatch z)) h⟩)
 ·exact .inr h
noncomputable def vA:Sp:=fun vs H Q _=>∃ (c:Int) (k:Nat),vs=[.int c, .int (k:Int)]∧∀ v:Int,Q (.int v) H
theorem aBA:∀ vs H Q E,vA vs H Q E→iV K { nx:=fun _ H'=>Q .non H',rt:=Q } (bQ ["cell","at","one","two","three"] vs) H:=by
 intro vs H Q E h
 obtain ⟨c,k,rfl,q⟩:=h
 refine ⟨_,rfl,_,_,rfl,rfl,by show (0:Int)<1000000007;decide, .inl (.inr ⟨by decide,by decide⟩),_,rfl, .inl (.inr ⟨by decide,by decide⟩),_,_,rfl,rfl,by show (0:Int)<2147483629;decide,?_⟩
 refine ⟨_,rfl,_,rfl, .inl (sF (by decide) (by decide)),_,rfl, .inl (.inr ⟨by decide,by decide⟩),_,rfl,_,_,rfl,rfl,by show (0:Int)<65537;decide,_,_,rfl,rfl,by show (0:Int)<2147483587;decide,?_⟩
 refine ⟨_,rfl,_,rfl, .inl (sF (by decide) (by decide)),_,rfl, .inl (.inr ⟨by decide,by decide⟩),_,_,rfl,rfl,by show (0:Int)<2147483563;decide,?_⟩
 exact ⟨_,rfl, .inl (.inr ⟨by decide,by decide⟩),_,rfl, .inl (.inr ⟨by decide,by decide⟩),_,rfl,q _⟩
noncomputable def rR (K:PySem.W.Frag):Sp:=fun vs H Q _=>∃ (a:Addr) (ns:List Int),vs=[.ref a]∧SqL K H a (ns.map V.int)∧∀ p l ms H',Same H H'→Pen H' p l ms→Q (.ref p) H'
theorem zP:∀ vs H Q E,rR K vs H Q E→jP K { nx:=fun _ H'=>Q .non H',rt:=Q } (bQ ["script"] vs) H:=by
 intro vs H Q E h
 obtain ⟨a,ns,rfl,hS,q⟩:=h
 refine ⟨_,rfl,_,rfl, .inl ⟨a,_,rfl,hS,fun sc hsc=>?_⟩⟩
 obtain ⟨ms,ems,_⟩:=wK ns none (some 40)
 rw [ems]
 refine .inl ⟨sc,_,rfl, .inl (.of aF),fun l hl=>⟨show 3≤sizeLine by decide,fun p hp=>?_⟩⟩
 have hlp:l≠p:=fun e=>by rw [← e,aF] at hp;cases hp
 refine q p l ms _ (((aJ hsc _).trans (aJ hl _)).trans (aJ hp _)) ⟨0,0,aF,?_,hlp⟩
 rw [aP hlp]
 exact aF
noncomputable def eC:Sp:=fun vs H Q _=>∃ (p l:Addr) (ns:List Int) (m:Nat),vs=[.ref p, .int (m:Int)]∧Pen H p l ns∧1≤m∧m<2 ^ 100∧∀ (r:Nat) H',r<m→Pen H' p l ns→SameX p H H'→Q (.int (r:Int)) H'
theorem zR:∀ vs H Q E,eC vs H Q E→jL K vA { nx:=fun _ H'=>Q .non H',rt:=Q } (bQ ["feed","many","at","cell","found"] vs) H:=by
 intro vs H Q E h
 obtain ⟨p,l,ns,m,rfl,⟨k,z,hP⟩,h1,hm,q⟩:=h
 have rest:∀ (G:Hp) (k':Nat) (z':Int) (x2 x3:Option V),PenAt G p l ns k' z'→SameX p H G→aR (bW (tOp rW (tOp (aX K) (aD 0) (tC (.int 2))) (aD 1)) (aN 4)) (aR (bW (tOp tM (tOp (aX K) (aD 0) (tC (.int 2))) (aD 1)) (kF (aD 0) (tC (.int 2)) dM)) (aR (eX (aD 4)) aL)) { nx:=fun _ H'=>Q .non H',rt:=Q } [some (.ref p),some (.int (m:Int)),x2,x3,none] G:=fun G k' z' x2 x3 hG sx=>by
  obtain ⟨r,er,hr⟩:=vU (c:=z') (n:=m) h1
  refine ⟨_,rfl,ixL (j:=2) (.of hG.1) rfl ⟨_,rfl,sD h1 er ?_⟩⟩
  refine ⟨_,rfl,ixL (j:=2) (.of hG.1) rfl ⟨_,rfl,_,_,rfl,rfl,⟨by omega,aCn (a:=100) (by omega) (by decide)⟩,_,rfl,p,_,2,2,rfl,rfl,hG.1,rfl,?_⟩⟩
  exact ⟨_,rfl,q r _ hr ⟨k',z' / (m:Int),hG.put⟩ (sx.trans (SameX.put _))⟩
 refine ⟨_,rfl,ixL (j:=2) (.of hP.1) rfl ⟨_,rfl,_,_,rfl,rfl,_,rfl,?_⟩⟩
 by_cases c1:z<(m:Int)
 ·refine iA (decide_eq_true c1) ⟨_,rfl,ixL (j:=0) (.of hP.1) rfl ⟨l,_,rfl, .inl (.of hP.2.1),_,_,rfl,rfl,_,rfl,?_⟩⟩
  rw [List.length_map]
  by_cases c2:0<ns.length
  ·refine iA (decide_eq_true (by omega)) ?_
   obtain ⟨j,ej,hj⟩:=vU (c:=(k:Int)) (n:=ns.length) c2
   refine ⟨_,rfl,ixL (j:=1) (.of hP.1) rfl ?_⟩
   refine ⟨_,rfl,ixL (j:=0) (.of hP.1) rfl ⟨_,rfl,_,rfl,ixL (j:=0) (.of hP.1) rfl ⟨l,_,rfl, .inl (.of hP.2.1),?_⟩⟩⟩
   rw [List.length_map]
   refine sD c2 ej ?_
   refine ixL (j:=j) (v := .int (ns.getD j 0)) (.of hP.2.1) (by rw [List.getElem?_map,L2.rG hj];rfl) ?_
   generalize ns.getD j 0=c
   refine ⟨_,rfl,_,rfl,p,_,1,1,rfl,rfl,hP.1,rfl,?_⟩
   have hP1:PenAt (upd H p (.lst ([.ref l, .int (k:Int), .int z].set 1 (.int ((k:Int)+1))))) p l ns (k+1) z:=hP.put
   have sx1:SameX p H (upd H p (.lst ([.ref l, .int (k:Int), .int z].set 1 (.int ((k:Int)+1))))):=SameX.put _
   generalize upd H p (.lst ([.ref l, .int (k:Int), .int z].set 1 (.int ((k:Int)+1))))=G1 at *
   refine ⟨_,rfl,_,rfl,p,_,2,2,rfl,rfl,hP1.1,rfl,?_⟩
   have hP2:PenAt (upd G1 p (.lst ([.ref l, .int ((k+1:Nat):Int), .int z].set 2 (.int c)))) p l ns (k+1) c:=hP1.put
   have sx2:=sx1.trans (SameX.put (H:=G1) (.lst ([.ref l, .int ((k+1:Nat):Int), .int z].set 2 (.int c))))
   generalize upd G1 p (.lst ([.ref l, .int ((k+1:Nat):Int), .int z].set 2 (.int c)))=G2 at *
   have mixed:aR (bW (cA vA [] E0 (aC (aD 3) (aC (aD 2) aS))) (kF (aD 0) (tC (.int 2)) dM)) aL { nx:=fun σ' H'=>aR (bW (tOp rW (tOp (aX K) (aD 0) (tC (.int 2))) (aD 1)) (aN 4)) (aR (bW (tOp tM (tOp (aX K) (aD 0) (tC (.int 2))) (aD 1)) (kF (aD 0) (tC (.int 2)) dM)) (aR (eX (aD 4)) aL)) { nx:=fun _ H'=>Q .non H',rt:=Q } σ' H',rt:=Q } [some (.ref p),some (.int (m:Int)),some (.int (k:Int)),some (.int c),none] G2:=by
    refine ⟨_,rfl,_,rfl,c,k,rfl,fun v=>⟨_,rfl,p,_,2,2,rfl,rfl,hP2.1,rfl,?_⟩⟩
    exact rest _ (k+1) v _ _ hP2.put (sx2.trans (SameX.put _))
   refine ⟨_,rfl,10,18,rfl,rfl,⟨by decide,by decide,by decide⟩,_,_,rfl,rfl,_,rfl,?_⟩
   by_cases c3:c<10 ^ 18
   ·exact iA (decide_eq_true c3) (iA rfl mixed)
   ·refine dD (decide_eq_false c3) ⟨_,rfl,_,rfl,ixL (j:=0) (.of hP2.1) rfl ⟨l,_,rfl, .inl (.of hP2.2.1),_,_,rfl,rfl,_,rfl,?_⟩⟩
    exact aAj (fun _=>mixed) fun _=>rest _ (k+1) c _ _ hP2 sx2
  ·exact dD (decide_eq_false (by omega)) (rest H k z _ _ hP (SameX.refl _ _))
 ·exact dD (decide_eq_false c1) (rest H k z _ _ hP (SameX.refl _ _))
noncomputable def Bs (M:List (List Int)) (n:Nat):Prop:=∀ i j,i<n→j<n→0≤at2 M i j∧at2 M i j≤1000000
noncomputable def Sy (M:List (List Int)) (n:Nat):Prop:=∀ i j,i<n→j<n→at2 M i j=at2 M j i
theorem yU {M:List (List Int)}{n i j:Nat}{v:Int}(b:Bs M n)(s:Sy M n)(q:Quad M n)(hi:i<n)(hj:j<n)(h0:0≤v)(h1:v≤1000000):Bs (oM (oM M i j v) j i v) n∧Sy (oM (oM M i j v) j i v) n:=by
 have q1:=fQ (j:=j) (v:=v) q hi
 have e:∀ a c,at2 (oM (oM M i j v) j i v) a c=if (a=j∧c=i)∨(a=i∧c=j) then v else at2 M a c:=fun a c=>by
  rw [jG q1 hj hi,jG q hi hj]
  by_cases h1:a=j∧c=i
  ·rw [if_pos h1,if_pos (.inl h1)]
  ·rw [if_neg h1]
   by_cases h2:a=i∧c=j
   ·rw [if_pos h2,if_pos (.inr h2)]
   ·rw [if_neg h2,if_neg (fun z=>z.elim h1 h2)]
 refine ⟨fun a c ha hc=>?_,fun a c ha hc=>?_⟩
 ·rw [e]
  split
  ·exact ⟨h0,h1⟩
  ·exact b a c ha hc
 ·rw [e,e]
  by_cases c1:(a=j∧c=i)∨(a=i∧c=j)
  ·rw [if_pos c1,if_pos (by omega)]
  ·rw [if_neg c1,if_neg (by omega)]
   exact s a c ha hc
noncomputable def prN (L:List (Nat × Nat)):List (List Int):=L.map fun e=>[(e.1:Int),(e.2:Int)]
theorem uJ {H:Hp}{xs:List V}{L:List (Nat × Nat)}(h:Rows K H xs (prN L)){i:Nat}{x:V}(hx:xs[i]?=some x):∃ e b,L[i]?=some e∧x = .ref b∧SqT K H b [bY e.1,bY e.2]:=by
 have hi:i<xs.length:=(List.getElem?_eq_some_iff.mp hx).1
 have hl:i<L.length:=by rw [h.1] at hi;unfold prN at hi;rwa [List.length_map] at hi
 obtain ⟨b,e1,e2⟩:=h.2 i [(L[i].1:Int),(L[i].2:Int)] (by unfold prN;rw [List.getElem?_map,List.getElem?_eq_getElem hl];rfl)
 rw [hx] at e1
 exact ⟨L[i],b,List.getElem?_eq_getElem hl,Option.some.inj e1,e2⟩
theorem jA {L:List (Nat × Nat)}:(prN L).length=L.length:=by unfold prN;rw [List.length_map]
theorem zY {L M:List (Nat × Nat)}:prN (L++M)=prN L++prN M:=by unfold prN;rw [List.map_append]
theorem xY {H:Hp}{xs ys:List V}{T U:List (List Int)}(h:Rows K H xs T)(g:Rows K H ys U):Rows K H (xs++ys) (T++U):=by
 refine ⟨by rw [List.length_append,List.length_append,h.1,g.1],fun i row e=>?_⟩
 by_cases hi:i<T.length
 ·rw [List.getElem?_append_left hi] at e
  obtain ⟨b,e1,e2⟩:=h.2 i row e
  exact ⟨b,by rw [List.getElem?_append_left (by rw [h.1];exact hi)];exact e1,e2⟩
 ·rw [List.getElem?_append_right (by omega)] at e
  obtain ⟨b,e1,e2⟩:=g.2 _ row e
  exact ⟨b,by rw [List.getElem?_append_right (by rw [h.1];omega),h.1];exact e1,e2⟩
noncomputable def dR (K:PySem.W.Frag):Sp:=fun vs H Q _=>∃ n:Nat,vs=[.int (n:Int)]∧n≤8∧∀ F ys M H',Same H H'→H F=none→H' F=some (.lst ys)→Rows K H' ys (prN M)→(∀ e∈M,e.1<e.2∧e.2<n)→M.length≤64→Q (.ref F) H'
theorem xA:∀ vs H Q E,dR K vs H Q E→iH K { nx:=fun _ H'=>Q .non H',rt:=Q } (bQ ["many","found","i"] vs) H:=by
 intro vs H Q E h
 obtain ⟨n,rfl,h8,q⟩:=h
 refine ⟨show 0≤sizeLine by decide,fun F hF=>?_⟩
 have mF:=aJ hF (.lst [])
 have hF1:(upd H F (.lst [])) F=some (.lst []):=aF
 generalize upd H F (.lst [])=G at *
 refine ⟨_,rfl,(n:Int),rfl,by omega,by omega,?_⟩
 rw [Int.toNat_natCast]
 refine cG (lo:=0) (n:=n) (fun i σ' H'=>Same H H'∧∃ F x2 ys M,σ'=[some (.int (n:Int)),some (.ref F),x2]∧H F=none∧H' F=some (.lst ys)∧Rows K H' ys (prN M)∧(∀ e∈M,e.1<e.2∧e.2<n)∧M.length≤8*i) ⟨mF,F,none,[],[],rfl,hF,hF1,Rows.nil,(fun _ z=>nomatch z),Nat.le_refl _⟩ (fun i σ' H1 hi ⟨m1,F1,x2,ys,M,es,hF0,hF2,r2,g2,z2⟩=>?_) fun σ' H1 ⟨m1,F1,x2,ys,M,es,hF0,hF2,r2,g2,z2⟩=>?_
 ·subst es
  rw [Int.zero_add]
  refine ⟨_,rfl,_,rfl,_,rfl,_,_,rfl,⟨by omega,by omega,by omega,by omega⟩,fun A hA=>?_⟩
  rw [show ((n:Int) - ((i:Int)+1)).toNat=n - (i+1) by omega]
  have e1:prN ((List.range (n - (i+1))).map fun k=>(i,i+1+k))=(List.range (n - (i+1))).flatMap fun k=>[[(i:Int),((i+1+k:Nat):Int)]]:=by
   unfold prN
   rw [List.map_map]
   have:∀ (L:List Nat) (f:Nat→List Int),(L.flatMap fun k=>[f k])=L.map f:=fun L f=>by
    induction L with
    | nil=>rfl
    | cons a L ih=>rw [List.flatMap_cons,ih];rfl
   rw [this]
   rfl
  refine xC (K:=K) [0] (prN ((List.range (n - (i+1))).map fun k=>(i,i+1+k))) hA (by rw [jA,List.length_map,List.length_range];omega) (EmR.cast (wV (lo:=(i:Int)+1) (by decide) (by show 0<2;decide) fun k σ2 H2 hk l2 ag2 s0 sx2=>?_) e1.symm) fun σ2 H2 pre m2 hA2 r3=>?_
  ·have t1:σ2[1]?=some (some (.int (i:Int))):=(ag2 1 (by decide)).trans rfl
   have e3:(i:Int)+1+(k:Int)=((i+1+k:Nat):Int):=by omega
   rw [e3] at s0
   exact zO (by show 2≤100;decide) fun R hR=>⟨_,t1,_,s0,hR⟩
  ·have hF3:=m2 _ _ hF2
   refine .inl ⟨F1,A,ys,pre,rfl,rfl,hF3,hA2,?_,fun F4 hF4=>?_⟩
   ·rw [r3.1,r2.1,jA,jA,List.length_map,List.length_range]
    exact Nat.le_trans (show _≤100 by omega) (by decide)
   ·have m4:=aJ hF4 (.lst (ys++pre))
    refine ⟨(m1.trans m2).trans m4,F4,_,ys++pre,M++(List.range (n - (i+1))).map fun k=>(i,i+1+k),rfl,(m1.trans m2).free hF4,aF,?_,fun e he=>?_,?_⟩
    ·rw [zY]
     exact (xY (r2.same m2) r3).same m4
    ·rcases List.mem_append.mp he with he | he
     ·exact g2 e he
     ·obtain ⟨k,hk,rfl⟩:=List.mem_map.mp he
      have hk:=List.mem_range.mp hk
      exact ⟨by show i<i+1+k;omega,by show i+1+k<n;omega⟩
    ·rw [List.length_append,List.length_map,List.length_range];omega
 ·subst es
  exact ⟨_,rfl,q F1 ys M H1 m1 hF0 hF2 r2 g2 (by omega)⟩
noncomputable def Flo (M:List (List Int)) (n k i0 j0:Nat) (M':List (List Int)):Prop:=∀ a b,a<n→b<n→at2 M' a b=if a<i0∨(a=i0∧b<j0) then min (at2 M a b) (at2 M a k+at2 M k b) else at2 M a b
theorem zX {M M':List (List Int)}{n k:Nat}(hk:k<n)(b:Bs M n)(s:Sy M n)(f:Flo M n k n 0 M'):Bs M' n∧Sy M' n:=by
 refine ⟨fun i j hi hj=>?_,fun i j hi hj=>?_⟩
 ·rw [f i j hi hj,if_pos (.inl hi)]
  have:=b i j hi hj
  have:=b i k hi hk
  have:=b k j hk hj
  omega
 ·rw [f i j hi hj,f j i hj hi,if_pos (.inl hi),if_pos (.inl hj),s i j hi hj,s i k hi hk,s k j hk hj,Int.add_comm]
theorem vH {M M':List (List Int)}{n k i0 j0:Nat}(hk:k<n)(b:Bs M n)(f:Flo M n k i0 j0 M'){x:Nat}(hx:x<n):at2 M' x k=at2 M x k∧at2 M' k x=at2 M k x:=by
 have:=b k k hk hk
 constructor
 ·rw [f x k hx hk]
  split
  ·omega
  ·rfl
 ·rw [f k x hk hx]
  split
  ·omega
  ·rfl
noncomputable def cS (K:PySem.W.Frag):Sp:=fun vs H Q _=>∃ (F:Addr) (ls:List Addr) (M:List (List Int)) (n:Nat),vs=[.ref F]∧Mat H F ls M∧Quad M n∧Bs M n∧Sy M n∧1≤n∧n≤8∧∀ T v H',Same H H'→Quad T n→Bs T n→Sy T n→Sh K H' (jY T) v→Q v H'
theorem uC:∀ vs H Q E,cS K vs H Q E→iT K { nx:=fun _ H'=>Q .non H',rt:=Q } (bQ ["rows","found","k","i","j","step"] vs) H:=by
 intro vs H Q E h
 obtain ⟨F0,ls0,M0,n,rfl,m0,q0,b0,y0,n1,n8,q⟩:=h
 have l0:ls0.length=n:=by rw [m0.len,q0.len]
 have lenF:∀ {H'},Same H H'→SqL K H' F0 (ls0.map V.ref):=fun s => .of (s _ _ m0.top)
 refine ⟨_,rfl,F0,rfl, .inl ⟨⟨_, .of m0.top⟩,fun F hF=>?_⟩⟩
 refine rZ (vars:=[0]) (K:=K) (a:=F0) (xs:=ls0.map V.ref) (fun i L H'=>∃ ls:List Addr,L=ls.map V.ref∧ls.length=i∧ls.Nodup∧F∉ls∧(∀ (j:Nat) (x:Addr) (r:List Int),ls[j]?=some x→M0[j]?=some r→H' x=some (.lst (r.map V.int)))∧(∀ x∈ls,∃ r:List Int,H' x=some (.lst (r.map V.int)))∧∀ x∈ls,H x=none) (by decide) (by show 0<1;decide) ⟨[],rfl,rfl,List.nodup_nil,by simp,(fun _ _ _ z=>by cases z),by simp,by simp⟩ hF (fun i L H' sm _=>lenF sm) (fun i x σ1 H2 L D hx l1 ag1 s1 sm1 ha1 ⟨ls,e1,e2,e3,e4,e5,e55,e6⟩ hD=>?_) fun σ1 H2 L sm1 ha1 ⟨ls,e1,e2,e3,e4,e5,e55,e6⟩=>?_
 ·have hi:i<ls0.length:=by have:=(List.getElem?_eq_some_iff.mp hx).1;rwa [List.length_map] at this
  obtain ⟨row,g1,g2,g3⟩:=q0.get (show i<n by omega)
  obtain rfl:x = .ref ls0[i]:=by
   rw [List.getElem?_map,List.getElem?_eq_getElem hi] at hx
   exact (Option.some.inj hx).symm
  have hrow:=m0.row i _ row (List.getElem?_eq_getElem hi) g1
  refine ⟨_,s1, .inl ⟨ls0[i],row.map V.int,rfl, .inl (.of (sm1 _ _ hrow)),fun p2 hp2=>?_⟩⟩
  have hp2F:p2≠F:=fun e=>by rw [e,ha1] at hp2;cases hp2
  refine ⟨L,by rw [aP (Ne.symm hp2F)];exact ha1,Nat.lt_of_le_of_lt (show L.length≤9 by rw [e1,List.length_map];omega) (by decide),?_⟩
  have keep:∀ b o,b≠F→H2 b=some o→upd (upd H2 p2 (.lst (row.map V.int))) F (.lst (L++[V.ref p2])) b=some o:=fun b o hb e=>by
   rw [aP hb,aP (aQ e hp2)];exact e
  refine hD σ1 _ (L++[.ref p2]) l1 ag1 (fun b o e=>keep b o (aQ e hF) (sm1 _ _ e)) aF ⟨ls++[p2],by rw [e1,List.map_append];rfl,by rw [List.length_append,e2];rfl,?_,?_,?_,?_,?_⟩
  ·refine rA e3 fun hmem=>?_
   obtain ⟨r,g⟩:=e55 p2 hmem
   rw [g] at hp2;cases hp2
  ·intro hmem
   rcases List.mem_append.mp hmem with y | y
   ·exact e4 y
   ·exact hp2F (List.mem_singleton.mp y).symm
  ·intro j x r hj hr
   by_cases cj:j<ls.length
   ·rw [List.getElem?_append_left cj] at hj
    exact keep x _ (fun e=>e4 (e ▸ List.mem_of_getElem? hj)) (e5 j x r hj hr)
   ·have ej:j=ls.length:=by
     have:=(List.getElem?_eq_some_iff.mp hj).1
     rw [List.length_append,List.length_singleton] at this
     omega
    rw [ej,List.getElem?_append_right (Nat.le_refl _),Nat.sub_self] at hj
    cases hj
    rw [ej,e2,g1] at hr
    cases hr
    rw [aP hp2F]
    exact aF
  ·intro x hx
   rcases List.mem_append.mp hx with y | y
   ·obtain ⟨r,g⟩:=e55 x y
    exact ⟨r,keep x _ (fun e=>e4 (e ▸ y)) g⟩
   ·rw [List.mem_singleton.mp y]
    exact ⟨row,by rw [aP hp2F];exact aF⟩
  ·intro x hx
   rcases List.mem_append.mp hx with y | y
   ·exact e6 x y
   ·rw [List.mem_singleton.mp y]
    exact sm1.free hp2
 rw [List.length_map] at e2
 have mat0:Mat H2 F ls M0:=⟨by rw [ha1,e1],by rw [e2];exact m0.len,e5,e3,e4⟩
 refine ⟨_,rfl,F0,_,rfl, .inl (lenF sm1),(n:Int),by rw [List.length_map,l0],by omega,by omega,?_⟩
 rw [Int.toNat_natCast]
 refine cG (lo:=0) (n:=n) (fun k σ' H'=>Same H H'∧∃ x2 x3 x4 x5 M,σ'=[some (.ref F0),some (.ref F),x2,x3,x4,x5]∧Mat H' F ls M∧Quad M n∧Bs M n∧Sy M n) ⟨sm1,_,_,_,_,M0,rfl,mat0,q0,b0,y0⟩ (fun k σ2 H3 hk ⟨s3,x2,x3,x4,x5,M,es,mM,qM,bM,yM⟩=>?_) fun σ2 H3 ⟨s3,x2,x3,x4,x5,M,es,mM,qM,bM,yM⟩=>?_
 ·subst es
  rw [Int.zero_add]
  refine ⟨_,rfl,F0,_,rfl, .inl (lenF s3),(n:Int),by rw [List.length_map,l0],by omega,by omega,?_⟩
  rw [Int.toNat_natCast]
  refine cG (lo:=0) (n:=n) (fun i σ' H'=>Same H H'∧∃ x3 x4 x5 M',σ'=[some (.ref F0),some (.ref F),some (.int (k:Int)),x3,x4,x5]∧Mat H' F ls M'∧Quad M' n∧Flo M n k i 0 M') ⟨s3,_,_,_,M,rfl,mM,qM,fun a b _ _=>by rw [if_neg (by omega)]⟩ (fun i σ3 H4 hi ⟨s4,x3,x4,x5,M4,es,m4,q4,f4⟩=>?_) fun σ3 H4 ⟨s4,x3,x4,x5,M4,es,m4,q4,f4⟩=>?_
  ·subst es
   rw [Int.zero_add]
   refine ⟨_,rfl,F0,_,rfl, .inl (lenF s4),(n:Int),by rw [List.length_map,l0],by omega,by omega,?_⟩
   rw [Int.toNat_natCast]
   refine cG (lo:=0) (n:=n) (fun j σ' H'=>Same H H'∧∃ x4 x5 M',σ'=[some (.ref F0),some (.ref F),some (.int (k:Int)),some (.int (i:Int)),x4,x5]∧Mat H' F ls M'∧Quad M' n∧Flo M n k i j M') ⟨s4,_,_,M4,rfl,m4,q4,f4⟩ (fun j σ4 H5 hj ⟨s5,x4,x5,M5,es,m5,q5,f5⟩=>?_) fun σ4 H5 ⟨s5,x4,x5,M5,es,m5,q5,f5⟩=>?_
   ·subst es
    rw [Int.zero_add]
    refine rM (t:=1) (si:=3) (sj:=2) m5 q5 rfl rfl rfl hi hk (rM (t:=1) (si:=2) (sj:=4) m5 q5 rfl rfl rfl hk hj ?_)
    dsimp only [bJ]
    refine rM (t:=1) (si:=3) (sj:=4) m5 q5 rfl rfl rfl hi hj ⟨_,rfl,_,_,rfl,?_⟩
    have ik:=(vH hk bM f5 hi).1
    have kj:=(vH hk bM f5 hj).2
    refine rE (t:=1) (si:=3) (sj:=4) m5 q5 rfl rfl rfl hi hj fun l' H6 hl' e6' m6=>⟨?_,_,_,_,rfl,m6,fQ q5 hi,fun a b ha hb=>?_⟩
    ·intro c o e
     rw [e6',aP (aQ e (e6 l' hl'))]
     exact s5 _ _ e
    ·rw [jG q5 hi hj]
     have hij:at2 M5 i j=at2 M i j:=by rw [f5 i j hi hj,if_neg (by omega)]
     by_cases ce:a=i∧b=j
     ·rw [if_pos ce,hij,ik,kj]
      obtain ⟨rfl,rfl⟩:=ce
      rw [if_pos (show a<a∨(a=a∧b<b+1) by omega)]
      split <;> omega
     ·rw [if_neg ce,f5 a b ha hb]
      by_cases cl:a<i∨(a=i∧b<j)
      ·rw [if_pos cl,if_pos (by omega)]
      ·rw [if_neg cl,if_neg (by omega)]
   ·subst es
    refine ⟨s5,_,_,_,M5,rfl,m5,q5,fun a b ha hb=>?_⟩
    rw [f5 a b ha hb]
    by_cases cl:a<i+1
    ·rw [if_pos (by omega),if_pos (.inl cl)]
    ·rw [if_neg (by omega),if_neg (by omega)]
  ·subst es
   obtain ⟨b5,y5⟩:=zX hk bM yM f4
   exact ⟨s4,_,_,_,_,M4,rfl,m4,q4,b5,y5⟩
 ·subst es
  exact oP (t:=1) rfl mM qM (by omega) fun p9 H' sm hS=>q M _ H' (s3.trans sm) qM bM yM hS
end
end K45
namespace K45
open PySem L2
noncomputable def e1 (K:PySem.W.Frag) (aI:Sp) (bG:Sp) (bH:Sp):TS:=(aR (bW (cA aI [] E0 (aC (aD 0) (aC (aD 5) aS))) (aN 10)) (aR (eM (cB (tOp (gF K) (aD 4) (tC (.int 1)))) (aR (bW (tOp fN (tOp rW (aD 10) (tC (.int 2))) (tOp lP (aD 5) (tC (.int 1)))) (aN 10)) aL) aL) (aR (eM (tOr (cB (tOp (gF K) (aD 4) (tC (.int 2)))) (cB (tOp (gF K) (aD 4) (tC (.int 3))))) (aR (bW (tCB tS (aC (tOp lP (tOp (aX K) (tOp (aX K) (aD 7) (aD 8)) (tC (.int 0))) (tOp (aX K) (tOp (aX K) (aD 7) (aD 9)) (tC (.int 0)))) aS)) (aN 10)) aL) aL) (aR (eM (cB (tOp (gF K) (aD 4) (tC (.int 3)))) (aR (bW (tOp (bJ K) (aD 10) (tCB tS (aC (tOp lP (tOp (aX K) (tOp (aX K) (aD 7) (aD 8)) (tC (.int 1))) (tOp (aX K) (tOp (aX K) (aD 7) (aD 9)) (tC (.int 1)))) aS))) (aN 10)) aL) aL) (aR (eM (cB (tOp (gF K) (aD 4) (tC (.int 4)))) (aR (bW (tOp lP (aD 5) (tC (.int 1))) (aN 10)) aL) aL) (aR (bW (tCB oK (aC (aD 10) (aC (tOp wY (tC (.int 10)) (tC (.int 6))) aS))) (kF (tOp (aX K) (aD 6) (aD 8)) (aD 9) dM)) (aR (bW (tOp (aX K) (tOp (aX K) (aD 6) (aD 8)) (aD 9)) (kF (tOp (aX K) (aD 6) (aD 9)) (aD 8) dM)) aL)))))))
noncomputable def e2 (K:PySem.W.Frag) (aI:Sp) (bG:Sp) (bH:Sp):TS:=(aR (eM (cB (tOp (gF K) (aD 4) (tC (.int 1)))) (aR (bW (tOp fN (tOp rW (aD 10) (tC (.int 2))) (tOp lP (aD 5) (tC (.int 1)))) (aN 10)) aL) aL) (aR (eM (tOr (cB (tOp (gF K) (aD 4) (tC (.int 2)))) (cB (tOp (gF K) (aD 4) (tC (.int 3))))) (aR (bW (tCB tS (aC (tOp lP (tOp (aX K) (tOp (aX K) (aD 7) (aD 8)) (tC (.int 0))) (tOp (aX K) (tOp (aX K) (aD 7) (aD 9)) (tC (.int 0)))) aS)) (aN 10)) aL) aL) (aR (eM (cB (tOp (gF K) (aD 4) (tC (.int 3)))) (aR (bW (tOp (bJ K) (aD 10) (tCB tS (aC (tOp lP (tOp (aX K) (tOp (aX K) (aD 7) (aD 8)) (tC (.int 1))) (tOp (aX K) (tOp (aX K) (aD 7) (aD 9)) (tC (.int 1)))) aS))) (aN 10)) aL) aL) (aR (eM (cB (tOp (gF K) (aD 4) (tC (.int 4)))) (aR (bW (tOp lP (aD 5) (tC (.int 1))) (aN 10)) aL) aL) (aR (bW (tCB oK (aC (aD 10) (aC (tOp wY (tC (.int 10)) (tC (.int 6))) aS))) (kF (tOp (aX K) (aD 6) (aD 8)) (aD 9) dM)) (aR (bW (tOp (aX K) (tOp (aX K) (aD 6) (aD 8)) (aD 9)) (kF (tOp (aX K) (aD 6) (aD 9)) (aD 8) dM)) aL))))))
noncomputable def e3 (K:PySem.W.Frag) (aI:Sp) (bG:Sp) (bH:Sp):TS:=(aR (eM (tOr (cB (tOp (gF K) (aD 4) (tC (.int 2)))) (cB (tOp (gF K) (aD 4) (tC (.int 3))))) (aR (bW (tCB tS (aC (tOp lP (tOp (aX K) (tOp (aX K) (aD 7) (aD 8)) (tC (.int 0))) (tOp (aX K) (tOp (aX K) (aD 7) (aD 9)) (tC (.int 0)))) aS)) (aN 10)) aL) aL) (aR (eM (cB (tOp (gF K) (aD 4) (tC (.int 3)))) (aR (bW (tOp (bJ K) (aD 10) (tCB tS (aC (tOp lP (tOp (aX K) (tOp (aX K) (aD 7) (aD 8)) (tC (.int 1))) (tOp (aX K) (tOp (aX K) (aD 7) (aD 9)) (tC (.int 1)))) aS))) (aN 10)) aL) aL) (aR (eM (cB (tOp (gF K) (aD 4) (tC (.int 4)))) (aR (bW (tOp lP (aD 5) (tC (.int 1))) (aN 10)) aL) aL) (aR (bW (tCB oK (aC (aD 10) (aC (tOp wY (tC (.int 10)) (tC (.int 6))) aS))) (kF (tOp (aX K) (aD 6) (aD 8)) (aD 9) dM)) (aR (bW (tOp (aX K) (tOp (aX K) (aD 6) (aD 8)) (aD 9)) (kF (tOp (aX K) (aD 6) (aD 9)) (aD 8) dM)) aL)))))
noncomputable def e4 (K:PySem.W.Frag) (aI:Sp) (bG:Sp) (bH:Sp):TS:=(aR (eM (cB (tOp (gF K) (aD 4) (tC (.int 3)))) (aR (bW (tOp (bJ K) (aD 10) (tCB tS (aC (tOp lP (tOp (aX K) (tOp (aX K) (aD 7) (aD 8)) (tC (.int 1))) (tOp (aX K) (tOp (aX K) (aD 7) (aD 9)) (tC (.int 1)))) aS))) (aN 10)) aL) aL) (aR (eM (cB (tOp (gF K) (aD 4) (tC (.int 4)))) (aR (bW (tOp lP (aD 5) (tC (.int 1))) (aN 10)) aL) aL) (aR (bW (tCB oK (aC (aD 10) (aC (tOp wY (tC (.int 10)) (tC (.int 6))) aS))) (kF (tOp (aX K) (aD 6) (aD 8)) (aD 9) dM)) (aR (bW (tOp (aX K) (tOp (aX K) (aD 6) (aD 8)) (aD 9)) (kF (tOp (aX K) (aD 6) (aD 9)) (aD 8) dM)) aL))))
noncomputable def e5 (K:PySem.W.Frag) (aI:Sp) (bG:Sp) (bH:Sp):TS:=(aR (eM (cB (tOp (gF K) (aD 4) (tC (.int 4)))) (aR (bW (tOp lP (aD 5) (tC (.int 1))) (aN 10)) aL) aL) (aR (bW (tCB oK (aC (aD 10) (aC (tOp wY (tC (.int 10)) (tC (.int 6))) aS))) (kF (tOp (aX K) (aD 6) (aD 8)) (aD 9) dM)) (aR (bW (tOp (aX K) (tOp (aX K) (aD 6) (aD 8)) (aD 9)) (kF (tOp (aX K) (aD 6) (aD 9)) (aD 8) dM)) aL)))
noncomputable def e6 (K:PySem.W.Frag) (aI:Sp) (bG:Sp) (bH:Sp):TS:=(aR (bW (tCB oK (aC (aD 10) (aC (tOp wY (tC (.int 10)) (tC (.int 6))) aS))) (kF (tOp (aX K) (aD 6) (aD 8)) (aD 9) dM)) (aR (bW (tOp (aX K) (tOp (aX K) (aD 6) (aD 8)) (aD 9)) (kF (tOp (aX K) (aD 6) (aD 9)) (aD 8) dM)) aL))
noncomputable def zL (p:Addr) (ls:List Addr) (H H':Hp):Prop:=∀ b o,b≠p→b∉ls→H b=some o→H' b=some o
section
variable {K:PySem.W.Frag}{p l F:Addr}{ls:List Addr}{ns:List Int}{n:Nat}
structure Ro (K:PySem.W.Frag)(G:Hp)(p l F:Addr)(ls:List Addr)(ns:List Int)(n:Nat)(H':Hp):Prop where
 ex:∃ M,Quad M n∧Bs M n∧Sy M n∧Mat H' F ls M
 pen:Pen H' p l ns
 sl:zL p ls G H'
theorem Ro.draw {G H' H2:Hp}(h:Ro K G p l F ls ns n H')(hF:F≠p)(hl:∀ x∈ls,x≠p)(hP:Pen H2 p l ns)(sx:SameX p H' H2):Ro K G p l F ls ns n H2:=by
 obtain ⟨M,q,b,s,m⟩:=h.ex
 exact ⟨⟨M,q,b,s,m.keep fun c o hc e=>sx c o (by rcases hc with rfl | hc;exact hF;exact hl c hc) e⟩,hP,fun c o hc hn e=>sx c o hc (h.sl c o hc hn e)⟩
variable {G:Hp}{x0 x1 x2:Option V}{way top i j A:Nat}{D:lO}{zs:List V}{R:List (List Int)}
structure Fx (K:PySem.W.Frag)(G:Hp)(p l F:Addr)(ls:List Addr)(n A:Nat)(zs:List V)(R:List (List Int)):Prop where
 F:F≠p
 l:∀ x∈ls,x≠p∧x≠l
 Ap:A≠p
 Al:A∉ls
 hA:G A=some (.lst zs)
 rows:Rows K G zs R
 two:R.length=n∧∀ r∈R,∃ a b,r=[a,b]
 pen:∃ o,G p=some (.lst o)
 lst:∀ x∈ls,∃ o,G x=some (.lst o)
theorem zG {H':Hp}{b:Addr}{xs:List V}(fx:Fx K G p l F ls n A zs R)(sl:zL p ls G H')(h:SqT K G b xs):SqT K H' b xs:=by
 obtain ⟨o,ho⟩:=fx.pen
 have np:∀ u,G b=some u→(∀ ys,u ≠ .lst ys)→b≠p∧b∉ls:=fun u e hu=>⟨fun z=>by rw [z,ho] at e;exact hu _ (Option.some.inj e).symm,fun z=>by
  obtain ⟨o',ho'⟩:=fx.lst b z
  rw [ho'] at e
  exact hu _ (Option.some.inj e).symm⟩
 rcases h with (h | ⟨ob,h⟩) | h
 ·have:=np _ h (fun ys e=>by cases e)
  exact .inl (.inl (sl _ _ this.1 this.2 h))
 ·have:=np _ h (fun ys e=>by cases e)
  exact .inl (.inr ⟨ob,sl _ _ this.1 this.2 h⟩)
 ·exact .inr h
theorem nE {H':Hp}{σ:St}{Q:VK}{t s k:Nat}{c:Nat}(hk:k<2)(fx:Fx K G p l F ls n A zs R)(sl:zL p ls G H')(ht:σ[t]?=some (some (.ref A)))(hs:σ[s]?=some (some (.int (c:Int))))(hc:c<n)(q:∀ v:Int,Q (.int v) H'):tOp (aX K) (tOp (aX K) (aD t) (aD s)) (tC (.int (k:Int))) σ H' Q:=by
 have hcR:c<R.length:=by rw [fx.two.1];exact hc
 obtain ⟨a,b,e⟩:=fx.two.2 _ (List.getElem_mem hcR)
 obtain ⟨d,e1,e2⟩:=fx.rows.2 c R[c] (List.getElem?_eq_getElem hcR)
 have hA':=sl _ _ fx.Ap fx.Al fx.hA
 rw [e] at e2
 refine ⟨_,ht,_,hs,ixL (j:=c) (.of hA') e1 ?_⟩
 match k,hk with
 | 0,_=>exact ixT (j:=0) (zG fx sl e2) rfl (q a)
 | 1,_=>exact ixT (j:=1) (zG fx sl e2) rfl (q b)
noncomputable def StE (p:Addr) (x1 x2:Option V) (n way top:Nat) (F A:Addr) (i j:Nat) (x:Option V):St:=[some (.ref p),x1,x2,some (.int (n:Int)),some (.int (way:Int)),some (.int (top:Int)),some (.ref F),some (.ref A),some (.int (i:Int)),some (.int (j:Int)),x]
theorem aBi {H':Hp}{v:Int}(fx:Fx K G p l F ls n A zs R)(ro:Ro K G p l F ls ns n H')(hi:i<n)(hj:j<n)(hij:i<j)(h0:0≤v)(q:∀ x H2,Ro K G p l F ls ns n H2→D.nx (StE p x1 x2 n way top F A i j x) H2):e6 K eC (dR K) (cS K) D (StE p x1 x2 n way top F A i j (some (.int v))) H':=by
 obtain ⟨M,qM,bM,sM,mM⟩:=ro.ex
 refine ⟨_,rfl,10,6,rfl,rfl,⟨by decide,by decide,by decide⟩,_,_,rfl,?_⟩
 have hw:∃ w:Int,(if ((10:Int) ^ (6:Int).toNat)<v then ((10:Int) ^ (6:Int).toNat) else v)=w∧0≤w∧w≤1000000:=by
  refine ⟨_,rfl,?_⟩
  have:((10:Int) ^ (6:Int).toNat)=1000000:=by decide
  rw [this]
  split <;> omega
 obtain ⟨w,ew,w0,w1⟩:=hw
 rw [ew]
 refine rE (t:=6) (si:=8) (sj:=9) mM qM rfl rfl rfl hi hj fun l1 H1 hl1 e1 m1=>?_
 have q1:=fQ (j:=j) (v:=w) qM hi
 refine rM (t:=6) (si:=8) (sj:=9) m1 q1 rfl rfl rfl hi hj ?_
 rw [jG qM hi hj,if_pos ⟨rfl,rfl⟩]
 refine rE (t:=6) (si:=9) (sj:=8) m1 q1 rfl rfl rfl hj hi fun l2 H2 hl2 e2 m2=>q _ H2 ⟨⟨_,fQ q1 hj,(yU bM sM qM hi hj w0 w1).1,(yU bM sM qM hi hj w0 w1).2,m2⟩,?_,fun c o hc hn e=>?_⟩
 ·rw [e2,e1]
  exact (ro.pen.upd (fx.l l1 hl1).1 (fx.l l1 hl1).2).upd (fx.l l2 hl2).1 (fx.l l2 hl2).2
 ·rw [e2,aP (fun z=>hn (by rw [z];exact hl2)),e1,aP (fun z=>hn (by rw [z];exact hl1))]
  exact ro.sl c o hc hn e
theorem aAL {H':Hp}{v:Int}(fx:Fx K G p l F ls n A zs R)(ro:Ro K G p l F ls ns n H')(hi:i<n)(hj:j<n)(hij:i<j)(ht:2≤top)(h0:0≤v)(q:∀ x H2,Ro K G p l F ls ns n H2→D.nx (StE p x1 x2 n way top F A i j x) H2):e5 K eC (dR K) (cS K) D (StE p x1 x2 n way top F A i j (some (.int v))) H':=by
 refine ⟨_,rfl, .int (way:Int), .int 4,Nat.zero_le _,rfl,rfl,_,rfl,aAj (fun _=>?_) fun _=>?_⟩
 ·exact ⟨_,rfl,_,_,rfl,rfl,aBi fx ro hi hj hij (by omega) q⟩
 ·exact aBi fx ro hi hj hij h0 q
theorem aBh {H':Hp}{v:Int}(fx:Fx K G p l F ls n A zs R)(ro:Ro K G p l F ls ns n H')(hi:i<n)(hj:j<n)(hij:i<j)(ht:2≤top)(h0:0≤v)(q:∀ x H2,Ro K G p l F ls ns n H2→D.nx (StE p x1 x2 n way top F A i j x) H2):e4 K eC (dR K) (cS K) D (StE p x1 x2 n way top F A i j (some (.int v))) H':=by
 refine ⟨_,rfl, .int (way:Int), .int 3,Nat.zero_le _,rfl,rfl,_,rfl,aAj (fun _=>?_) fun _=>?_⟩
 ·refine ⟨_,rfl,nE (t:=7) (s:=8) (k:=1) (by decide) fx ro.sl rfl rfl hi fun a=>nE (t:=7) (s:=9) (k:=1) (by decide) fx ro.sl rfl rfl hj fun b=>⟨_,_,rfl,rfl,_,rfl,?_⟩⟩
  exact aAL fx ro hi hj hij ht (by split <;> omega) q
 ·exact aAL fx ro hi hj hij ht h0 q
theorem aAU {H':Hp}{v:Int}(fx:Fx K G p l F ls n A zs R)(ro:Ro K G p l F ls ns n H')(hi:i<n)(hj:j<n)(hij:i<j)(ht:2≤top)(h0:0≤v)(q:∀ x H2,Ro K G p l F ls ns n H2→D.nx (StE p x1 x2 n way top F A i j x) H2):e3 K eC (dR K) (cS K) D (StE p x1 x2 n way top F A i j (some (.int v))) H':=by
 have go:(aR (bW (tCB tS (aC (tOp lP (tOp (aX K) (tOp (aX K) (aD 7) (aD 8)) (tC (.int 0))) (tOp (aX K) (tOp (aX K) (aD 7) (aD 9)) (tC (.int 0)))) aS)) (aN 10)) aL) { D with nx:=e4 K eC (dR K) (cS K) D } (StE p x1 x2 n way top F A i j (some (.int v))) H':=by
  refine nE (t:=7) (s:=8) (k:=0) (by decide) fx ro.sl rfl rfl hi fun a=>nE (t:=7) (s:=9) (k:=0) (by decide) fx ro.sl rfl rfl hj fun b=>⟨_,_,rfl,rfl,_,rfl,?_⟩
  exact aBh fx ro hi hj hij ht (by split <;> omega) q
 refine ⟨_,rfl, .int (way:Int), .int 2,Nat.zero_le _,rfl,rfl,_,rfl,aAj (fun _=>iA rfl go) fun _=>⟨_,rfl, .int (way:Int), .int 3,Nat.zero_le _,rfl,rfl,_,rfl,aAj (fun _=>go) fun _=>aBh fx ro hi hj hij ht h0 q⟩⟩
theorem aCb {H':Hp}{v:Int}(fx:Fx K G p l F ls n A zs R)(ro:Ro K G p l F ls ns n H')(hi:i<n)(hj:j<n)(hij:i<j)(ht:2≤top)(ht2:top≤1000001)(h0:0≤v)(q:∀ x H2,Ro K G p l F ls ns n H2→D.nx (StE p x1 x2 n way top F A i j x) H2):e2 K eC (dR K) (cS K) D (StE p x1 x2 n way top F A i j (some (.int v))) H':=by
 refine ⟨_,rfl, .int (way:Int), .int 1,Nat.zero_le _,rfl,rfl,_,rfl,aAj (fun _=>?_) fun _=>?_⟩
 ·refine ⟨_,rfl,_,_,rfl,rfl,by show (0:Int)<2;decide,_,rfl,_,_,rfl,rfl, .inl (.inr ⟨by omega,by omega⟩),?_⟩
  exact aAU fx ro hi hj hij ht (Int.mul_nonneg (Int.emod_nonneg _ (by decide)) (by omega)) q
 ·exact aAU fx ro hi hj hij ht h0 q
theorem aCo {H':Hp}{x:Option V}(fx:Fx K G p l F ls n A zs R)(ro:Ro K G p l F ls ns n H')(hi:i<n)(hj:j<n)(hij:i<j)(ht:2≤top)(ht2:top≤1000001)(q:∀ x H2,Ro K G p l F ls ns n H2→D.nx (StE p x1 x2 n way top F A i j x) H2):e1 K eC (dR K) (cS K) D (StE p x1 x2 n way top F A i j x) H':=by
 refine ⟨_,rfl,_,rfl,p,l,ns,top,rfl,ro.pen,by omega,Nat.lt_of_le_of_lt ht2 (by decide),fun r H2 hr hP sx=>?_⟩
 exact aCb fx (ro.draw fx.F (fun x hx=>(fx.l x hx).1) hP sx) hi hj hij ht ht2 (by omega) q
noncomputable def sH (K:PySem.W.Frag):Sp:=fun vs H Q _=>∃ (p l:Addr) (ns:List Int) (lo hi:Nat),vs=[.ref p, .int (lo:Int), .int (hi:Int)]∧Pen H p l ns∧1≤lo∧lo≤hi∧hi≤8∧∀ T n v H',lo≤n→n≤hi→Quad T n→Bs T n→Sy T n→Sh K H' (jY T) v→Pen H' p l ns→SameX p H H'→Q v H'
theorem wT:∀ vs H Q E,sH K vs H Q E→jH K eC (dR K) (cS K) { nx:=fun _ H'=>Q .non H',rt:=Q } (bQ ["feed","least","most","many","way","top","rows","spots","i","j","found"] vs) H:=by
 intro vs H Q E h
 obtain ⟨p,l,ns,lo,hi,rfl,hP0,lo1,lohi,hi8,q⟩:=h
 refine ⟨_,rfl,_,rfl,_,rfl,_,rfl,_,_,rfl,rfl,p,l,ns,hi - lo+1,by show [V.ref p,V.int ((hi:Int) - (lo:Int)+1)]=_;rw [show ((hi - lo+1:Nat):Int)=(hi:Int) - (lo:Int)+1 by omega],hP0,by omega,Nat.lt_of_le_of_lt (show hi - lo+1≤8 by omega) (by decide),fun r0 H0 hr0 hP1 sx0=>?_⟩
 dsimp only [bJ]
 obtain ⟨n,en⟩:∃ n:Nat,n=lo+r0:=⟨_,rfl⟩
 rw [show (lo:Int)+(r0:Int)=(n:Int) by omega]
 refine ⟨_,rfl,p,l,ns,8,rfl,hP1,by decide,by decide,fun way H1 hway hP2 sx1=>?_⟩
 refine ⟨show 4≤sizeLine by decide,fun t0 ht0=>⟨_,rfl,p,l,ns,4,rfl,hP2.x (aJ ht0 _),by decide,by decide,fun r2 H2 hr2 hP3 sx2=>?_⟩⟩
 have et0:H2 t0=some (.lst [.int 2, .int 5, .int 30, .int 1000001]):=sx2 _ _ (hP2.ne ht0).1 aF
 have sx02:SameX p H H2:=((sx0.trans sx1).trans (aJ ht0 _).x).trans sx2
 have ctop:∃ top:Nat,[V.int 2, .int 5, .int 30, .int 1000001][r2]?=some (.int (top:Int))∧2≤top∧top≤1000001:=by
  match r2,hr2 with
  | 0,_=>exact ⟨2,rfl,by decide,by decide⟩
  | 1,_=>exact ⟨5,rfl,by decide,by decide⟩
  | 2,_=>exact ⟨30,rfl,by decide,by decide⟩
  | 3,_=>exact ⟨1000001,rfl,by decide,by decide⟩
 obtain ⟨top,etop,top2,topb⟩:=ctop
 refine ixL (j:=r2) (.of et0) etop ?_
 refine ⟨_,rfl,(n:Int),rfl,by omega,by omega,fun F hF=>?_⟩
 rw [Int.toNat_natCast]
 refine uZ (vars:=[0]) (fun i L H'=>∃ ls:List Addr,L=ls.map V.ref∧ls.length=i∧ls.Nodup∧F∉ls∧(∀ l∈ls,H' l=some (.lst (List.replicate n (.int 0))))∧∀ l∈ls,H2 l=none) (by decide) (by show 0<2;decide) ⟨[],rfl,rfl,List.nodup_nil,by simp,by simp,by simp⟩ hF (fun i σ1 H3 L D hi l1 ag1 s1 sm1 ha1 ⟨ls,e1,e2,e3,e4,e5,e6⟩ hD=>?_) fun σ1 H3 L sm1 ha1 ⟨ls,e1,e2,e3,e4,e5,e6⟩=>?_
 ·have m1:σ1[1]?=some (some (.int (n:Int))):=(ag1 1 (by decide)).trans rfl
  refine ⟨by show 1≤sizeLine;decide,fun p' hp=>⟨_,m1,p',(n:Int),_,rfl,rfl,aF,by omega,by omega,?_,fun p2 hp2=>?_⟩⟩
  ·rw [Int.toNat_natCast]
   exact Nat.le_trans (show 1*n≤9 by omega) (by decide)
  have hpF:p'≠F:=fun e=>by rw [e,ha1] at hp;cases hp
  have hF2:upd H3 p' (.lst [V.int 0]) F=some (.lst L):=by rw [aP (Ne.symm hpF)];exact ha1
  have hp2F:p2≠F:=fun e=>by rw [e,hF2] at hp2;cases hp2
  rw [Int.toNat_natCast,List.flatten_replicate_singleton]
  refine ⟨L,by rw [aP (Ne.symm hp2F)];exact hF2,Nat.lt_of_le_of_lt (show L.length≤9 by rw [e1,List.length_map];omega) (by decide),?_⟩
  have keep:∀ b o,b≠F→H3 b=some o→upd (upd (upd H3 p' (.lst [V.int 0])) p2 (.lst (List.replicate n (V.int 0)))) F (.lst (L++[V.ref p2])) b=some o:=fun b o hb e=>by
   have e':upd H3 p' (.lst [V.int 0]) b=some o:=by rw [aP (aQ e hp)];exact e
   rw [aP hb,aP (aQ e' hp2)];exact e'
  refine hD σ1 _ (L++[.ref p2]) l1 ag1 (fun b o e=>keep b o (aQ e hF) (sm1 _ _ e)) aF ⟨ls++[p2],by rw [e1,List.map_append];rfl,by rw [List.length_append,e2];rfl,?_,?_,?_,?_⟩
  ·refine rA e3 fun hmem=>?_
   have g:=e5 p2 hmem
   have g':upd H3 p' (.lst [V.int 0]) p2=some (.lst (List.replicate n (.int 0))):=by rw [aP (aQ g hp)];exact g
   rw [g'] at hp2;cases hp2
  ·intro hmem
   rcases List.mem_append.mp hmem with y | y
   ·exact e4 y
   ·exact hp2F (List.mem_singleton.mp y).symm
  ·intro x hx
   rcases List.mem_append.mp hx with y | y
   ·exact keep x _ (fun e=>e4 (e ▸ y)) (e5 x y)
   ·rw [List.mem_singleton.mp y,aP hp2F]
    exact aF
  ·intro x hx
   rcases List.mem_append.mp hx with y | y
   ·exact e6 x y
   ·rw [List.mem_singleton.mp y]
    exact (sm1.trans (aJ hp _)).free hp2
 have mat0:Mat H3 F ls (List.replicate n (List.replicate n 0)):=by
  refine ⟨by rw [ha1,e1],by rw [e2,List.length_replicate],fun i x r a b=>?_,e3,e4⟩
  have:=e5 x (List.mem_of_getElem? a)
  rw [List.getElem?_replicate] at b
  split at b
  ·cases b
   rw [this,List.map_replicate]
  ·cases b
 have quad0:Quad (List.replicate n (List.replicate n (0:Int))) n:=⟨List.length_replicate,fun r hr=>by rw [List.eq_of_mem_replicate hr,List.length_replicate]⟩
 have hP4:=hP3.x sm1
 have nFp:=(hP3.ne hF).1
 have nls:∀ x∈ls,x≠p∧x≠l:=fun x hx=>hP3.ne (e6 x hx)
 refine ⟨_,rfl,(n:Int),rfl,by omega,by omega,fun A hA=>?_⟩
 rw [Int.toNat_natCast]
 have nA:=hP4.ne hA
 have nAls:A∉ls:=fun h=>by have:=e5 A h;rw [this] at hA;cases hA
 refine cG (lo:=0) (n:=n) (fun i σ' H'=>(∃ y0,σ'=[y0,some (.ref p),some (.int (top:Int))])∧Pen H' p l ns∧SameX p H3 H'∧∃ L R,H' A=some (.lst L)∧Rows K H' L R∧R.length=i∧∀ r∈R,∃ a b,r=[a,b]) ⟨⟨_,rfl⟩,hP4.x (aJ hA _),(aJ hA _).x,[],[],aF,Rows.nil,rfl,(fun _ z=>nomatch z)⟩ (fun i σ2 H5 hi ⟨⟨y0,es⟩,hP5,sx5,L5,R5,hA5,r5,z5,t5⟩=>?_) fun σ2 H5 ⟨⟨y0,es⟩,hP5,sx5,L5,R5,hA5,r5,z5,t5⟩=>?_
 ·subst es
  refine ⟨_,rfl,_,rfl,p,l,ns,top,rfl,hP5,by omega,Nat.lt_of_le_of_lt topb (by decide),fun ra H6 _ hP6 sx6=>?_⟩
  refine ⟨_,rfl,_,rfl,p,l,ns,top,rfl,hP6,by omega,Nat.lt_of_le_of_lt topb (by decide),fun rb H7 _ hP7 sx7=>⟨show 2≤sizeLine by decide,fun u hu=>?_⟩⟩
  have mu:=aJ hu (.tup [V.int (ra:Int), .int (rb:Int)])
  have sx67:=sx6.trans sx7
  obtain ⟨k5,z5',hp5⟩:=hP5
  have hA7:=mu _ _ (sx67 _ _ nA.1 hA5)
  have r7:Rows K (upd H7 u (.tup [V.int (ra:Int), .int (rb:Int)])) L5 R5:=(r5.map fun b rr hb=>sP hb hp5.1 sx67).same mu
  refine ⟨L5,hA7,Nat.lt_of_le_of_lt (show L5.length≤9 by rw [r5.1];omega) (by decide),⟨_,rfl⟩,(hP7.x mu).upd nA.1 nA.2,?_,_,R5++[[(ra:Int),(rb:Int)]],aF,?_,by rw [List.length_append,z5];rfl,fun r hr=>?_⟩
  ·intro c o hc e
   rw [aP (aQ e hA)]
   exact mu _ _ (sx67 _ _ hc (sx5 _ _ hc e))
  ·exact Rows.put (Rows.snoc r7 (.of aF)) hA7
  ·rcases List.mem_append.mp hr with hr | hr
   ·exact t5 r hr
   ·rw [List.mem_singleton.mp hr];exact ⟨_,_,rfl⟩
 subst es
 have mat5:Mat H5 F ls (List.replicate n (List.replicate n 0)):=mat0.keep fun c o hc e=>sx5 c o (by rcases hc with rfl | hc;exact nFp;exact (nls c hc).1) e
 refine ⟨_,rfl,n,rfl,by omega,fun Fp ys M H6 m6 hFp0 hFp rp gM zM=>?_⟩
 refine ⟨Fp,rfl, .inl ⟨⟨_, .of hFp⟩,?_⟩⟩
 obtain ⟨k6,z6,hp6⟩:=hP5.x m6
 have fx:Fx K H6 p l F ls n A L5 R5:=⟨nFp,nls,nA.1,nAls,m6 _ _ hA5,r5.same m6,⟨z5,t5⟩,⟨_,hp6.1⟩,fun x hx=>⟨_,m6 _ _ (sx5 _ _ (nls x hx).1 (e5 x hx))⟩⟩
 have nFpp:Fp≠p:=(hP5.ne hFp0).1
 have nFpl:Fp∉ls:=fun h=>by
  have:=sx5 _ _ (nls Fp h).1 (e5 Fp h)
  rw [hFp0] at this
  cases this
 have ro0:Ro K H6 p l F ls ns n H6:=⟨⟨_,quad0,fun i j _ _=>by rw [uR];omega,fun i j _ _=>by rw [uR,uR],mat5.same m6⟩,⟨k6,z6,hp6⟩,fun c o _ _ e=>e⟩
 refine iE (K:=K) (a:=Fp) (xs:=ys) (fun k σ' H'=>Ro K H6 p l F ls ns n H'∧∃ x8 x9 x10,σ'=[some (.ref p),some (.int (lo:Int)),some (.int (hi:Int)),some (.int (n:Int)),some (.int (way:Int)),some (.int (top:Int)),some (.ref F),some (.ref A),x8,x9,x10]) ⟨ro0,_,_,_,rfl⟩ (fun k σ' H' _ ⟨ro,_⟩ => .of (ro.sl _ _ nFpp nFpl hFp)) (fun k x σ' H' hx ⟨ro,x8,x9,x10,es⟩=>?_) fun σ' H' ⟨ro,x8,x9,x10,es⟩=>?_
 ·subst es
  obtain ⟨e,b,he,rfl,hb⟩:=uJ rp hx
  obtain ⟨g1,g2⟩:=gM e (List.mem_of_getElem? he)
  refine ⟨b,_,rfl,zG fx ro.sl hb,rfl,bY e.1,[bY e.2],rfl,bY e.2,[],rfl,rfl,?_⟩
  exact aCo (way:=way) (x:=x10) fx ro (by omega) g2 g1 top2 topb fun x H7 ro7=>⟨ro7,_,_,_,rfl⟩
 ·subst es
  obtain ⟨M',qM,bM,sM,mM⟩:=ro.ex
  have sxE:SameX p H H':=fun c o hc e=>by
   have c3:H3 c=some o:=sm1 _ _ (sx02 _ _ hc e)
   have hn:c∉ls:=fun h=>by
    have h2:=e6 c h
    rw [sx02 _ _ hc e] at h2
    cases h2
   exact ro.sl c o hc hn (m6 _ _ (sx5 _ _ hc c3))
  refine ⟨_,rfl,_,_,rfl,rfl,_,rfl,aAj (fun _=>?_) fun _=>?_⟩
  ·exact ⟨_,rfl,F,ls,M',n,rfl,mM,qM,bM,sM,by omega,by omega,fun T v H8 s8 qT bT sT hT=>q T n v H8 (by omega) (by omega) qT bT sT hT (ro.pen.x s8) (sxE.trans s8.x)⟩
  ·exact oP (t:=6) rfl mM qM (by omega) fun p9 H8 s8 hT=>q M' n _ H8 (by omega) (by omega) qM bM sM hT (ro.pen.x s8) (sxE.trans s8.x)
end
end K45
namespace K45
open PySem L2
noncomputable def Ev (T:List (List Int)) (n:Nat):Prop:=∀ i j,i<n→j<n→at2 T i j=at2 T j i
noncomputable def gL (T:List (List Int)) (n:Nat):List Bool:=(List.range n).flatMap fun i=>(List.range i).flatMap fun j=>[at2 T i j == at2 T j i]
section
variable {K:PySem.W.Frag}
noncomputable def aBz (K:PySem.W.Frag) (f:List (List Int)→Nat→Bool):Sp:=fun vs H Q _=>∃ (v:V) (T:List (List Int)) (n:Nat),vs=[v]∧Sh K H (jY T) v∧Quad T n∧1≤n∧n≤8∧∀ H',Same H H'→Q (.bl (f T n)) H'
theorem aAs:∀ vs H Q E,aBz K (fun T n=>(gL T n).all id) vs H Q E→oV K { nx:=fun _ H'=>Q .non H',rt:=Q } (bQ ["table","many"] vs) H:=by
 intro vs H Q E h
 obtain ⟨v,T,n,rfl,hS,hq,h1,hn,q⟩:=h
 obtain ⟨a,rs,rfl,ha,hl,hrow⟩:=id hS.tab
 have hl:rs.length=n:=hl.trans hq.len
 refine ⟨_,rfl,a,rs,rfl, .inr ha,?_⟩
 rw [hl]
 refine ⟨_,rfl,(n:Int),rfl,by omega,by omega,fun acc hacc=>?_⟩
 rw [Int.toNat_natCast]
 refine qP [0,1] ((gL T n).map V.bl) hacc ?_ ?_ fun σ' H' sm hl'=>⟨acc,gL T n,rfl, .inl (.of hl'),q H' sm⟩
 ·rw [List.length_map]
  have:=eJ (fun i=>(List.range i).flatMap fun j=>[at2 T i j == at2 T j i]) 8 n fun i hi=>by
   have:=eJ (fun j=>[at2 T i j == at2 T j i]) 1 i fun _ _=>Nat.le_refl _
   omega
  unfold gL
  omega
 ·refine Emits.cast (L:=(List.range n).flatMap fun i=>(List.range i).flatMap fun j=>[V.bl (at2 T i j == at2 T j i)]) ?_ (by unfold gL;simp only [oU,List.map_cons,List.map_nil])
  refine mP (by decide) (by show 0<3;decide) fun i σ1 H1 hi l1 ag1 s1 sx1 _=>?_
  rw [Int.zero_add] at s1
  refine Emits.mono (vars:=[1]) (pS (by decide) (by rw [l1];show 1<3;decide) (by omega) (fun Q hQ=>⟨_,s1,hQ H1 (Same.refl _)⟩) fun j σ2 H2 hj l2 ag2 s2 sx2 _=>?_) (by simp)
  have t2:σ2[2]?=some (some (.ref a)):=(ag2 2 (by decide)).trans ((ag1 2 (by decide)).trans rfl)
  have u1:σ2[0]?=some (some (.int (i:Int))):=(ag2 0 (by decide)).trans s1
  have S2:=hS.same (lA hacc (sx1.trans sx2))
  refine vO fun Q hQ=>?_
  refine qD t2 u1 s2 S2 hq (by omega) (by omega) (qD t2 s2 u1 S2 hq (by omega) (by omega) ⟨.int _, .int _,Nat.zero_le _,rfl,rfl,?_⟩)
  unfold eqD
  exact hQ H2 (Same.refl _)
theorem xD {T:List (List Int)}{n:Nat}(h:Ev T n):(gL T n).all id=true:=by
 unfold gL
 rw [kW]
 refine List.all_eq_true.mpr fun i hi=>?_
 rw [kW]
 refine List.all_eq_true.mpr fun j hj=>?_
 have hi:=List.mem_range.mp hi
 have hj:=List.mem_range.mp hj
 rw [h i j hi (by omega)]
 simp
noncomputable abbrev aCg (K:PySem.W.Frag):Sp:=aBz K (fun T n=>(gL T n).all id)
noncomputable def aBY (T:List (List Int)) (L:List (Nat × Nat)):Int:=(L.map fun e=>at2 T e.1 e.2).sum
noncomputable def aBI (K:PySem.W.Frag):Sp:=fun vs H Q _=>∃ (v:V) (a:Addr) (T:List (List Int)) (n:Nat) (ys:List V) (L:List (Nat × Nat)),vs=[v, .ref a]∧Sh K H (jY T) v∧Quad T n∧H a=some (.lst ys)∧Rows K H ys (prN L)∧(∀ e∈L,e.1<n∧e.2<n)∧L.length≤64∧∀ H',Same H H'→Q (.int (aBY T L)) H'
theorem aBE {L:List (Nat × Nat)}:∀ q∈prN L,q≠[]:=fun q hq=>by
 obtain ⟨e,_,rfl⟩:=List.mem_map.mp hq
 simp
theorem sh2 {H:Hp}{b:Addr}{i j:Nat}(h:SqT K H b [bY i,bY j]):Sh K H (.tup [.int (i:Int), .int (j:Int)]) (.ref b):=⟨b,_,rfl,h,ShL.ints [(i:Int),(j:Int)]⟩
noncomputable def xO (K:PySem.W.Frag):Sp:=fun vs H Q _=>∃ (n:Nat) (b:Addr) (i j:Nat),vs=[.int (n:Int), .ref b]∧SqT K H b [bY i,bY j]∧i<j∧j<n∧∀ H',Same H H'→Q (.bl true) H'
theorem uX {σ:St}{H:Hp}{n i j:Nat}{b:Addr}{Q:VK}(h0:σ[0]?=some (some (.int (n:Int))))(h1:σ[1]?=some (some (.ref b)))(hb:SqT K H b [bY i,bY j])(hij:i<j)(hjn:j<n)(q:Q (.bl true) H) :
  rJ yLe yLt yLt (tC (.int 0)) (tOp (aX K) (aD 1) (tC (.int 0))) (tOp (aX K) (aD 1) (tC (.int 1))) (aD 0) σ H Q:=by
 refine ⟨_,h1,ixT (j:=0) hb rfl ⟨_,_,rfl,rfl,_,rfl,?_⟩⟩
 rw [decide_eq_true (show (0:Int)≤(i:Int) by omega),if_pos rfl]
 refine ⟨_,h1,ixT (j:=1) hb rfl ⟨_,_,rfl,rfl,_,rfl,?_⟩⟩
 rw [decide_eq_true (show (i:Int)<(j:Int) by omega),if_pos rfl]
 refine ⟨_,h0,_,_,rfl,rfl,?_⟩
 rw [decide_eq_true (show (j:Int)<(n:Int) by omega)]
 exact q
theorem nV:∀ R:List (List Int),eqD (.lst (R.map fun r=>Dt.tup (r.map Dt.int))) (.lst (R.map fun r=>Dt.tup (r.map Dt.int)))=true:=by
 have e1:∀ r:List Int,eqL (r.map Dt.int) (r.map Dt.int)=true:=by
  intro r
  induction r with
  | nil=>rfl
  | cons x r ih=>simp [eqL,eqD,ih]
 intro R
 rw [eqD]
 induction R with
 | nil=>rfl
 | cons r R ih=>simp [eqL,eqD,ih,e1]
theorem wX:∀ R:List (List Int),dep (.lst (R.map fun r=>Dt.tup (r.map Dt.int)))≤100:=by
 have e1:∀ r:List Int,oC (r.map Dt.int)=0:=by
  intro r
  induction r with
  | nil=>rfl
  | cons x r ih=>simp [oC,dep,ih]
 intro R
 have:oC (R.map fun r=>Dt.tup (r.map Dt.int))≤1:=by
  induction R with
  | nil=>exact Nat.zero_le _
  | cons r R ih=>
   rw [List.map_cons,oC,dep,e1]
   omega
 rw [dep]
 omega
theorem qL {R R':List (List Int)}(h:R'.Perm R)(a:R.Pairwise fun a b=>cO b a=false)(b:R'.Pairwise fun a b=>cO b a=false):R'=R:=h.eq_of_pairwise (fun x y _ _ p q=>nH q p) b a
end
theorem aDf (n:Nat):(wL 0 (n:Int)).map V.int=(List.range n).map bY:=by
 unfold wL
 rw [List.map_map,show ((n:Int) - 0).toNat=n by omega]
 refine List.map_congr_left fun i _=>?_
 show V.int (0+(i:Int))=V.int (i:Int)
 rw [Int.zero_add]
end K45
namespace K45
open PySem L2
section
variable {K:PySem.W.Frag}
theorem aCk {H H':Hp}{v:V}{p:Addr}{T:List (List Int)}{ys:List V}(h:Sh K H (jY T) v)(hp:H p=some (.lst ys))(sx:SameX p H H'):Sh K H' (jY T) v:=by
 obtain ⟨a,rs,rfl,ha,hl,g⟩:=h.tab
 exact ⟨a,rs,rfl,sP ha hp sx,ShL.of_rows hl fun i row e=>by
  obtain ⟨b,e1,e2⟩:=g i row e
  exact ⟨b,e1,sP e2 hp sx⟩⟩
theorem Pen.tab {H H':Hp}{v:V}{p l:Addr}{ns:List Int}{T:List (List Int)}(h:Sh K H (jY T) v)(hp:Pen H p l ns)(sx:SameX p H H'):Sh K H' (jY T) v:=by
 obtain ⟨k,z,e,_⟩:=hp
 exact aCk h e sx
theorem yI {H:Hp}{rs:List V}{T:List (List Int)}{i:Nat}{b:Addr}{row:List Int}(h:Rows K H rs T)(hb:SqT K H b (row.map V.int)):Rows K H (rs.set i (.ref b)) (T.set i row):=by
 refine ⟨by rw [List.length_set,List.length_set];exact h.1,fun j r e=>?_⟩
 rw [List.getElem?_set] at e
 rw [List.getElem?_set]
 split at e
 ·rename_i hj
  split at e
  ·rename_i hl
   rw [if_pos hj,if_pos (by rw [h.1];exact hl)]
   cases e
   exact ⟨b,rfl,hb⟩
  ·cases e
 ·rename_i hj
  rw [if_neg hj]
  exact h.2 j r e
theorem xK {T:List (List Int)}{n i j:Nat}(hi:i<n)(hj:j<n)(hij:i≠j)(h:at2 T i j≠at2 T j i):(gL T n).all id=false:=by
 cases hq:(gL T n).all id with
 | false=>rfl
 | true=>
  exfalso
  have key:∀ a b,a<n→b<a→at2 T a b=at2 T b a:=fun a b ha hb=>by
   have:=List.all_eq_true.mp hq (at2 T a b == at2 T b a) (by
    unfold gL
    exact List.mem_flatMap.mpr ⟨a,List.mem_range.mpr ha,List.mem_flatMap.mpr ⟨b,List.mem_range.mpr hb,by simp⟩⟩)
   simpa using this
  rcases Nat.lt_or_gt_of_ne hij with c | c
  ·exact h (key j i hj c).symm
  ·exact h (key i j hi c)
theorem vJ {i r n:Nat}(hi:i<n)(hr:r<n - 1):∃ j:Nat,((i:Int)+1+(r:Int)) % (n:Int)=(j:Int)∧j<n∧i≠j:=by
 refine ⟨(i+1+r) % n,by rw [Int.natCast_emod];congr 1,Nat.mod_lt _ (by omega),?_⟩
 by_cases c:i+1+r<n
 ·rw [Nat.mod_eq_of_lt c];omega
 ·rw [Nat.mod_eq_sub_mod (by omega),Nat.mod_eq_of_lt (by omega)];omega
noncomputable def aBT (K:PySem.W.Frag):Sp:=fun vs H Q _=>∃ (p l:Addr) (ns:List Int) (v:V) (T:List (List Int)) (n:Nat),vs=[.ref p,v]∧Pen H p l ns∧Sh K H (jY T) v∧Quad T n∧Sy T n∧2≤n∧n≤8 ∧
 ∀ T' v' H',Quad T' n→(gL T' n).all id=false→Sh K H' (jY T') v'→Pen H' p l ns→SameX p H H'→Q v' H'
theorem aCG:∀ vs H Q E,aBT K vs H Q E→gP K eC { nx:=fun _ H'=>Q .non H',rt:=Q } (bQ ["feed","table","i","j","number","row"] vs) H:=by
 intro vs H Q E h
 obtain ⟨p,l,ns,v,T,n,rfl,hP,hS,qT,sy,n2,n8,q⟩:=h
 obtain ⟨a,rs,rfl,ha,hrl,hrow⟩:=id hS.tab
 have hrl:rs.length=n:=hrl.trans qT.len
 refine ⟨_,rfl,_,rfl,a,rs,rfl, .inr ha,p,l,ns,n,by rw [hrl];rfl,hP,by omega,Nat.lt_of_le_of_lt n8 (by decide),fun i H1 hi hP1 sx1=>?_⟩
 have hS1:=hP.tab hS sx1
 have ha1:SqT K H1 a rs:=by obtain ⟨k,z,e,_⟩:=hP;exact sP ha e sx1
 refine ⟨_,rfl,_,rfl,_,rfl,a,rs,rfl, .inr ha1,_,_,rfl,rfl,p,l,ns,n - 1,by rw [hrl];show [V.ref p,V.int ((n:Int) - 1)]=_;rw [show ((n - 1:Nat):Int)=(n:Int) - 1 by omega],hP1,by omega,Nat.lt_of_le_of_lt (show n - 1≤8 by omega) (by decide),fun r H2 hr hP2 sx2=>?_⟩
 have hS2:=hP1.tab hS1 sx2
 have ha2:SqT K H2 a rs:=by obtain ⟨k,z,e,_⟩:=hP1;exact sP ha1 e sx2
 obtain ⟨j,ej,hj,hij⟩:=vJ hi hr
 refine ⟨_,rfl,a,rs,rfl, .inr ha2,_,_,rfl,rfl,by rw [hrl];show (0:Int)<(n:Int);omega,?_⟩
 show aR _ _ _ ([some (.ref p),some (.ref a),some (.int (i:Int)),some (.int (((i:Int)+1+(r:Int)) % (rs.length:Int))),none,none]:St) H2
 rw [hrl,ej]
 refine qD (t:=1) (si:=2) (sj:=3) rfl rfl rfl hS2 qT hi hj ?_
 refine qD (t:=1) (si:=2) (sj:=3) rfl rfl rfl hS2 qT hi hj ?_
 refine ⟨10,6,rfl,rfl,⟨by decide,by decide,by decide⟩, .int (at2 T i j), .int ((10:Int) ^ (6:Int).toNat),Nat.zero_le _,rfl,rfl, .inr ⟨_,rfl, .inl (.inl ⟨by decide,by decide⟩),_,_,rfl,rfl,?_⟩⟩
 obtain ⟨w,ew,hw⟩:∃ w:Int,at2 T i j+1 - 2*(if eqD (.int (at2 T i j)) (.int ((10:Int) ^ (6:Int).toNat)) then 1 else 0)=w∧w≠at2 T i j:=⟨_,rfl,by split <;> omega⟩
 show aR _ _ _ ([some (.ref p),some (.ref a),some (.int (i:Int)),some (.int (j:Int)),some (.int (at2 T i j+1 - 2*(if eqD (.int (at2 T i j)) (.int ((10:Int) ^ (6:Int).toNat)) then 1 else 0))),none]:St) H2
 rw [ew]
 obtain ⟨row,r1,r2,r3⟩:=qT.get hi
 obtain ⟨a',rs',ea',ha',hrows⟩:=Sh.rowsT hS2
 cases ea'
 have hrn:rs'.length=n:=by rw [hrows.1,qT.len]
 obtain ⟨rb,e1,e2⟩:=hrows.2 i row r1
 show tOp (bJ K) (tOp (bJ K) (tSl (mH K) (tOp (aX K) (aD 1) (aD 2)) cI (dF (aD 3))) (qF (aC (aD 4) aS))) (tSl (mH K) (tOp (aX K) (aD 1) (aD 2)) (dF (tOp (bJ K) (aD 3) (tC (.int 1)))) cI) ([some (.ref p),some (.ref a),some (.int (i:Int)),some (.int (j:Int)),some (.int w),none]:St) H2 _
 refine uD (p:=rb) (xs:=row.map V.int) (i:=j) (v := .int w) e2 (by rw [List.length_map];omega) (by rw [List.length_map];omega)
  (fun H' sm R hR=>⟨_,rfl,_,rfl,ixT (sm.tup ha') e1 hR⟩) (fun H' R hR=>⟨_,rfl,hR⟩) (fun H' R hR=>⟨_,rfl,hR⟩) (fun H' sm R hR=>⟨_,rfl,_,rfl,ixT (sm.tup ha') e1 hR⟩) (fun H' R hR=>⟨_,rfl,hR⟩) fun ln H3 s3 hln=>?_
 show tOp (bJ K) (tOp (bJ K) (tSl (mH K) (aD 1) cI (dF (aD 2))) (qF (aC (aD 5) aS))) (tSl (mH K) (aD 1) (dF (tOp (bJ K) (aD 2) (tC (.int 1)))) cI) ([some (.ref p),some (.ref a),some (.int (i:Int)),some (.int (j:Int)),some (.int w),some (.ref ln)]:St) H3 _
 refine uD (p:=a) (xs:=rs') (i:=i) (v := .ref ln) (s3.tup ha') (by omega) (by omega)
  (fun H' sm R hR=>⟨_,rfl,hR⟩) (fun H' R hR=>⟨_,rfl,hR⟩) (fun H' R hR=>⟨_,rfl,hR⟩) (fun H' sm R hR=>⟨_,rfl,hR⟩) (fun H' R hR=>⟨_,rfl,hR⟩) fun nt H4 s4 hnt=>?_
 have hF:Sh K H4 (jY (oM T i j w)) (.ref nt):=by
  unfold oM
  rw [r3]
  refine aAI hnt (yI (hrows.same (s3.trans s4)) ?_)
  rw [List.map_set]
  exact s4.tup hln
 refine q _ _ H4 (fQ qT hi) (xK hi hj hij ?_) hF ((hP2.x s3).x s4) (((sx1.trans sx2).trans s3.x).trans s4.x)
 rw [jG qT hi hj,jG qT hi hj,if_pos ⟨rfl,rfl⟩,if_neg (fun h=>hij h.2),sy j i hj hi]
 exact hw
end
end K45
namespace K45
open PySem L2
structure Kx (K:PySem.W.Frag)(C_NoBack C_NoRow C_NoTable C_NoText C_NotEven C_NotStraight C_RoundError C_TooFew C_TooMany:Addr):Prop where
 xE:aAz K C_NotEven
 hE:PySem.W.exmOne K (.ref C_NotEven) (.ref C_RoundError)=some true
 oE:PySem.W.kitAny K (.ref C_NotEven) [.ref C_NoBack, .ref C_NoRow, .ref C_NoTable, .ref C_NoText]=some false
 vE:PySem.W.kitOne K (.ref C_NotEven) (.type "ValueError")=some true
 eE:PySem.W.kitOne K (.ref C_NotEven) (.ref C_NotEven)=some true
 sE:PySem.W.kitOne K (.ref C_NotEven) (.ref C_NotStraight)=some false
 fE:PySem.W.kitOne K (.ref C_NotEven) (.ref C_TooFew)=some false
 mE:PySem.W.kitOne K (.ref C_NotEven) (.ref C_TooMany)=some false
section
variable {K:PySem.W.Frag}{C_NoBack C_NoRow C_NoTable C_NoText C_NotEven C_NotStraight C_RoundError C_TooFew C_TooMany:Addr}
noncomputable def aBB (K:PySem.W.Frag) (C_NoBack C_NoRow C_NoTable C_NoText C_NotEven C_NotStraight C_TooFew C_TooMany:Addr):TS:=(aR (eM (cB (tOp aCA (aD 1) (tC .non))) (aR (eX (tC (.str ""))) aL) aL) (aR (bW (nW (aC (tCB (rX K) (aC (aD 1) (aC (tC (.ref C_NotEven)) aS))) (aC (tCB (rX K) (aC (aD 1) (aC (tC (.ref C_NotStraight)) aS))) aS))) (aN 2)) (aR (bW (tOp (bJ K) (aD 2) (nW (aC (tCB (rX K) (aC (aD 1) (aC (tC (.ref C_TooFew)) aS))) (aC (tCB (rX K) (aC (aD 1) (aC (tC (.ref C_TooMany)) aS))) aS)))) (aN 2)) (aR (bW (tCB (rX K) (aC (aD 1) (aC (qF (aC (tC (.ref C_NoBack)) (aC (tC (.ref C_NoRow)) (aC (tC (.ref C_NoTable)) (aC (tC (.ref C_NoText)) aS))))) aS))) (aN 3)) (aR (eM (tOr (cB (tOp (zA K) (tBM K "list" aCd (aD 2) (aC (tC (.bl true)) aS)) (tC (.int 1)))) (tOr (aCx K (aD 3)) (sA (tB (tCB (rX K) (aC (aD 1) (aC (tC (.ty "ValueError")) aS))))))) (aR (eX (tC (.str "odd"))) aL) aL) (aR (eX (tOp (aX K) (nW (aC (tC (.str "even")) (aC (tC (.str "straight")) (aC (tC (.str "few")) (aC (tC (.str "many")) aS))))) (tBM K "list" aCe (aD 2) (aC (tC (.bl true)) aS)))) aL))))))
theorem xJ {e:Addr}{x0 x2 x3:Option V}{H1:Hp}{Q:VK}{D:lO}(hD:D.rt=Q)(k:Kx K C_NoBack C_NoRow C_NoTable C_NoText C_NotEven C_NotStraight C_RoundError C_TooFew C_TooMany)(he:H1 e=none)
  (q:∀ H',Same H1 H'→Q (.str "even") H'):aBB K C_NoBack C_NoRow C_NoTable C_NoText C_NotEven C_NotStraight C_TooFew C_TooMany D [x0,some (.ref e),x2,x3,none] (upd H1 e (tJ e C_NotEven)):=by
 subst hD
 have h0:∀ H',Same (upd H1 e (tJ e C_NotEven)) H'→H' e=some (tJ e C_NotEven):=fun H' s=>s _ _ aF
 have s1:=aJ he (tJ e C_NotEven)
 have r0:=Same.refl (upd H1 e (tJ e C_NotEven))
 refine ⟨_,rfl, .inr ⟨rfl,_,rfl,dD (by simp) ?_⟩⟩
 refine ⟨_,rfl,e,_,_,true,rfl,h0 _ r0,k.xE, .inr (.inl ⟨_,rfl,k.eE⟩),⟨_,rfl,e,_,_,false,rfl,h0 _ r0,k.xE, .inr (.inl ⟨_,rfl,k.sE⟩),⟨show 2≤sizeLine by decide,fun F1 hF1=>?_⟩⟩⟩
 have m1:=aJ hF1 (.lst [V.bl true, .bl false])
 have t1:=r0.trans m1
 refine ⟨_,rfl,_,rfl,e,_,_,false,rfl,h0 _ t1,k.xE, .inr (.inl ⟨_,rfl,k.fE⟩),⟨_,rfl,e,_,_,false,rfl,h0 _ t1,k.xE, .inr (.inl ⟨_,rfl,k.mE⟩),⟨show 2≤sizeLine by decide,fun F2 hF2=>?_⟩⟩⟩
 have m2:=aJ hF2 (.lst [V.bl false, .bl false])
 have t2:=t1.trans m2
 refine .inl ⟨F1,F2,_,_,rfl,rfl,m2 _ _ aF,aF,show 4≤sizeLine by decide,fun G hG=>?_⟩
 have m3:=aJ hG (.lst [V.bl true, .bl false, .bl false, .bl false])
 have t3:=t2.trans m3
 have hG3:(upd (upd (upd (upd H1 e (tJ e C_NotEven)) F1 (.lst [V.bl true, .bl false])) F2 (.lst [V.bl false, .bl false])) G (.lst [V.bl true, .bl false, .bl false, .bl false])) G=some (.lst [V.bl true, .bl false, .bl false, .bl false]):=aF
 show aR _ _ _ ([x0,some (.ref e),some (.ref G),x3,none]:St) (upd (upd (upd (upd H1 e (tJ e C_NotEven)) F1 (.lst [V.bl true, .bl false])) F2 (.lst [V.bl false, .bl false])) G (.lst [V.bl true, .bl false, .bl false, .bl false]))
 generalize upd (upd (upd (upd H1 e (tJ e C_NotEven)) F1 (.lst [V.bl true, .bl false])) F2 (.lst [V.bl false, .bl false])) G (.lst [V.bl true, .bl false, .bl false, .bl false])=H3 at *
 refine ⟨_,rfl,show 4≤sizeLine by decide,fun tp htp=>?_⟩
 have m4:=aJ htp (.tup [V.ref C_NoBack, .ref C_NoRow, .ref C_NoTable, .ref C_NoText])
 have t4:=t3.trans m4
 refine ⟨e,_, .ref tp,false,rfl,h0 _ t4,k.xE, .inr (.inr ⟨tp,[C_NoBack,C_NoRow,C_NoTable,C_NoText],rfl,aF,k.oE⟩),?_⟩
 have hG4:=m4 _ _ hG3
 refine ⟨_,rfl, .inl ⟨rfl,_, .of hG4⟩,G,_, .bl true,rfl,rfl,hG4,rfl,rfl, .int _, .int 1,Nat.zero_le _,rfl,rfl,_,rfl,dD rfl ?_⟩
 refine ⟨_,rfl,false,rfl,dD rfl ?_⟩
 refine ⟨_,rfl,e,_,_,true,rfl,h0 _ t4,k.xE, .inl ⟨_,rfl,k.vE⟩,_,rfl,dD rfl ?_⟩
 refine ⟨show 4≤sizeLine by decide,fun W hW=>?_⟩
 have m5:=aJ hW (.lst [V.str "even", .str "straight", .str "few", .str "many"])
 have hG5:=m5 _ _ hG4
 refine ⟨_,rfl, .inl ⟨rfl,_, .of hG5⟩,G,_, .bl true,0,rfl,rfl,hG5,rfl,rfl,⟨_,rfl,rfl⟩,(fun m z hm=>absurd hm (Nat.not_lt_zero _)),?_⟩
 exact ixL (j:=0) (.of aF) rfl (q _ (s1.trans (t4.trans m5)))
noncomputable def yN (K:PySem.W.Frag) (fo:Addr→Sp→Prop) (C:Addr):Sp:=fun vs H Q _=>∃ (t f:Addr) (sp:Sp) (as:List V),vs=[.ref t]∧SqT K H t (.ref f :: as)∧fo f sp∧(as.length=1∨as.length=2)∧(∀ Q' E',(∀ H',Same H H'→E' (.ref C) none H')→sp as H Q' E')∧∀ H',Same H H'→Q (.str "even") H'
theorem aBu {fo:Addr→Sp→Prop}(k:Kx K C_NoBack C_NoRow C_NoTable C_NoText C_NotEven C_NotStraight C_RoundError C_TooFew C_TooMany):∀ vs H Q E,yN K fo C_NotEven vs H Q E→fZ K fo C_NoBack C_NoRow C_NoTable C_NoText C_NotEven C_NotStraight C_RoundError C_TooFew C_TooMany { nx:=fun _ H'=>Q .non H',rt:=Q } (bQ ["act","caught","kinds","others","e"] vs) H:=by
 intro vs H Q E h
 obtain ⟨t,f,sp,as,rfl,ht,ho,two,run,q⟩:=h
 have fin:∀ H1,Same H H1→∀ (a:Addr) (σ':St),H1 a=none→σ'.length=5→aBB K C_NoBack C_NoRow C_NoTable C_NoText C_NotEven C_NotStraight C_TooFew C_TooMany { nx:=fun _ H'=>Q .non H',rt:=Q } (((σ'.set 4 (some (.ref a))).set 1 (some (.ref a))).set 4 none) (upd H1 a (tJ a C_NotEven)):=by
  intro H1 s1 a σ' ha hl
  obtain ⟨x0,x1,x2,x3,x4,rfl⟩:∃ x0 x1 x2 x3 x4,σ'=[x0,x1,x2,x3,x4]:=by
   match σ',hl with
   | [x0,x1,x2,x3,x4],_=>exact ⟨x0,x1,x2,x3,x4,rfl⟩
  exact xJ rfl k ha fun H2 s2=>q H2 (s1.trans s2)
 rcases two with two | two
 ·obtain ⟨x,rfl⟩:=List.length_eq_one_iff.mp two
  refine ⟨_,rfl,t,_,rfl, .inr ht, .int 2, .int 2,Nat.zero_le _,rfl,rfl,_,rfl,iA rfl ?_⟩
  refine ⟨_,rfl,ixT (j:=0) ht rfl ⟨f,sp,rfl,ho,_,rfl,ixT (j:=1) ht rfl (run _ _ fun H1 s1=>?_)⟩⟩
  refine ⟨_,rfl,k.hE,fun a σ' ha hl=>⟨_,?_,fin H1 s1 a σ' ha hl⟩⟩
  rw [List.getElem?_set_self (by omega)]
 ·obtain ⟨x,y,rfl⟩:∃ x y,as=[x,y]:=by
   match as,two with
   | [x,y],_=>exact ⟨x,y,rfl⟩
  refine ⟨_,rfl,t,_,rfl, .inr ht, .int 3, .int 2,Nat.zero_le _,rfl,rfl,_,rfl,dD rfl ?_⟩
  refine ⟨_,rfl,t,_,rfl, .inr ht, .int 3, .int 3,Nat.zero_le _,rfl,rfl,_,rfl,iA rfl ?_⟩
  refine ⟨_,rfl,ixT (j:=0) ht rfl ⟨f,sp,rfl,ho,_,rfl,ixT (j:=1) ht rfl ⟨_,rfl,ixT (j:=2) ht rfl (run _ _ fun H1 s1=>?_)⟩⟩⟩
  refine ⟨_,rfl,k.hE,fun a σ' ha hl=>⟨_,?_,fin H1 s1 a σ' ha hl⟩⟩
  rw [List.getElem?_set_self (by omega)]
end
end K45
namespace K45
open PySem L2
theorem iJ:∀ r:List Int,eqL (r.map Dt.int) (r.map Dt.int)=true
 | []=>rfl
 | x :: r=>by simp [eqL,eqD,iJ r]
theorem gE:∀ ns:List Int,oC (ns.map Dt.int)=0
 | []=>rfl
 | n :: ns=>by rw [List.map_cons,oC,gE ns];rfl
section
variable {K:PySem.W.Frag}
noncomputable def aBL (K:PySem.W.Frag) (C:Addr):Sp:=fun vs H Q E=>∃ (v:V) (T:List (List Int)) (n:Nat),vs=[v]∧Sh K H (jY T) v∧Quad T n∧1≤n∧n≤8∧((Sy T n∧∀ H',Same H H'→Q .non H')∨((gL T n).all id=false∧∀ H',Same H H'→E (.ref C) none H'))
theorem aCq {C:Addr}:∀ vs H Q E,aBL K C vs H Q E→fR K C E (aCg K) { nx:=fun _ H'=>Q .non H',rt:=Q } (bQ ["table"] vs) H:=by
 intro vs H Q E h
 obtain ⟨v,T,n,rfl,hS,qT,n1,n8,h⟩:=h
 refine ⟨_,rfl,v,T,n,rfl,hS,qT,n1,n8,fun H1 s1=>⟨_,rfl,?_⟩⟩
 rcases h with ⟨sy,q⟩ | ⟨nev,q⟩
 ·exact dD (by show (!(gL T n).all id)=false;rw [xD sy];rfl) (q H1 s1)
 ·exact iA (by show (!(gL T n).all id)=true;rw [nev];rfl) (q H1 s1)
noncomputable def spW (K:PySem.W.Frag):Sp:=fun vs H Q _=>∃ i:Int,vs=[.int i]∧∀ H',Same H H'→Q (.bl true) H'
theorem uB:∀ vs H Q E,spW K vs H Q E→iU K { nx:=fun _ H'=>Q .non H',rt:=Q } (bQ ["thing"] vs) H:=by
 intro vs H Q E h
 obtain ⟨i,rfl,q⟩:=h
 refine ⟨_,rfl, .int i, .int i,"int",rfl,by decide,rfl,_,rfl,iA rfl ?_⟩
 exact ⟨_,rfl, .int i, .int i,"bool",rfl,by decide,rfl,_,rfl,q H (Same.refl _)⟩
theorem aAh:∀ vs H Q E,xO K vs H Q E→gR K (spW K) { nx:=fun _ H'=>Q .non H',rt:=Q } (bQ ["many","thing"] vs) H:=by
 intro vs H Q E h
 obtain ⟨n,b,i,j,rfl,hb,hij,hjn,q⟩:=h
 refine ⟨_,rfl, .ref b,_,"tuple",rfl,by decide,sh2 hb,_,rfl,dD rfl ?_⟩
 refine ⟨_,rfl,b,_,rfl, .inr hb, .int 2, .int 2,Nat.zero_le _,rfl,rfl,_,rfl,dD rfl ?_⟩
 refine ⟨_,rfl,ixT (j:=0) hb rfl ⟨(i:Int),rfl,fun H1 s1=>⟨_,rfl,dD rfl ?_⟩⟩⟩
 refine ⟨_,rfl,ixT (j:=1) (s1.tup hb) rfl ⟨(j:Int),rfl,fun H2 s2=>⟨_,rfl,dD rfl ?_⟩⟩⟩
 exact uX rfl rfl ((s1.trans s2).tup hb) hij hjn (q H2 (s1.trans s2))
theorem aAu:∀ vs H Q E,aBI K vs H Q E→lH K { nx:=fun _ H'=>Q .non H',rt:=Q } (bQ ["table","ties"] vs) H:=by
 intro vs H Q E h
 obtain ⟨v,a,T,n,ys,L,rfl,hS,qT,ha,hr,hL,z,q⟩:=h
 have yl:ys.length=L.length:=by rw [hr.1,jA]
 refine ⟨_,rfl,a,rfl, .inl ⟨⟨_, .of ha⟩,fun A hA=>?_⟩⟩
 refine iE (K:=K) (a:=a) (xs:=ys) (fun i σ' H'=>i≤ys.length∧Same H H'∧(∃ x0 x1,σ'=[x0,x1,some v])∧H' A=some (.lst (((L.take i).map fun e=>at2 T e.1 e.2).map V.int))) ⟨Nat.zero_le _,aJ hA _,⟨_,_,rfl⟩,aF⟩ (fun i σ1 H1 _ ⟨_,s1,_⟩ => .of (s1 _ _ ha)) (fun i x σ1 H1 hx ⟨_,s1,⟨x0,x1,es⟩,hA1⟩=>?_) fun σ1 H1 ⟨_,s1,_,hA1⟩=>?_
 ·subst es
  have hi:i<ys.length:=(List.getElem?_eq_some_iff.mp hx).1
  obtain ⟨e,b,he,rfl,hb⟩:=uJ (hr.same s1) hx
  obtain ⟨g1,g2⟩:=hL e (List.mem_of_getElem? he)
  refine ⟨b,_,rfl,hb,rfl,bY e.1,[bY e.2],rfl,bY e.2,[],rfl,rfl,?_⟩
  refine qD (t:=2) (si:=0) (sj:=1) rfl rfl rfl (hS.same s1) qT g1 g2 ⟨_,hA1,?_,hi,zD hA s1,⟨_,_,rfl⟩,?_⟩
  ·rw [List.length_map,List.length_map,List.length_take]
   exact Nat.lt_of_le_of_lt (show _≤64 by omega) (by decide)
  ·rw [aF,List.take_add_one,he,List.map_append,List.map_append]
   rfl
 ·rw [yl,List.take_length] at hA1
  exact ⟨A,_,rfl, .inl (.of hA1),q H1 s1⟩
noncomputable def wN (K:PySem.W.Frag):Sp:=fun vs H Q _=>∃ (p l:Addr) (ns:List Int) (b:Addr) (os:List Nat),vs=[.ref p, .ref b]∧Pen H p l ns∧H b=some (.lst (os.map bY))∧os.length≤8∧∀ (F:Addr) (ms:List Nat) H',Pen H' p l ns→SameX p H H'→H F=none→H' F=some (.lst (ms.map bY))→ms.Perm os→Q (.ref F) H'
theorem aBl:∀ vs H Q E,wN K vs H Q E→iK K eC { nx:=fun _ H'=>Q .non H',rt:=Q } (bQ ["feed","some","left","found"] vs) H:=by
 intro vs H Q E h
 obtain ⟨p,lp,ns,b,os,rfl,hP,hb,o8,q⟩:=h
 refine ⟨_,rfl, .inl ⟨b,_,rfl, .inl (.of hb),fun l hl=>⟨show 0≤sizeLine by decide,fun F hF=>?_⟩⟩⟩
 have s1:=aJ hl (.lst (os.map bY))
 have s2:=aJ hF (.lst [])
 have nl:=hP.ne hl
 have nF:=(hP.x s1).ne hF
 have hFH:=s1.free hF
 have lF:l≠F:=aQ (show upd H l (.lst (os.map bY)) l=some (.lst (os.map bY)) from aF) hF
 refine ⟨fun m σ' H'=>∃ (ls fs:List Nat),σ'=[some (.ref p),some (.ref b),some (.ref l),some (.ref F)]∧Pen H' p lp ns∧H' l=some (.lst (ls.map bY))∧H' F=some (.lst (fs.map bY))∧SameX p H H'∧ls.length=m∧(fs++ls).Perm os,
  ⟨os.length,os,[],rfl,hP.x (s1.trans s2),s2 _ _ aF,aF,(s1.trans s2).x,rfl,List.Perm.refl _⟩,?_⟩
 rintro m σ' H' ⟨ls,fs,rfl,hP',el,eF,sx,rfl,pm⟩
 have le:fs.length+ls.length=os.length:=by rw [← pm.length_eq,List.length_append]
 refine ⟨_,rfl,show 0≤sizeLine by decide,fun pe hpe=>?_⟩
 have se:=aJ hpe (.lst [])
 refine ⟨.lst ((ls.map fun x:Nat=>(x:Int)).map Dt.int), .lst [],by rw [dep];have:oC ((ls.map fun x:Nat=>(x:Int)).map Dt.int)=0:=(gE _);omega,⟨l,_,rfl, .of (se _ _ el),by rw [gG];exact ShL.ints _⟩,⟨pe,[],rfl, .of aF,rfl⟩,_,rfl,?_⟩
 cases ls with
 | nil=>
  refine dD (by simp [eqD,eqL]) ?_
  exact ⟨_,rfl,q F fs _ (hP'.x se) (sx.trans se.x) hFH (se _ _ eF) (by rw [List.append_nil] at pm;exact pm)⟩
 | cons a ls=>
  refine iA (by simp [eqD,eqL]) ?_
  have hPe:=hP'.x se
  have ele:=se _ _ el
  have eFe:=se _ _ eF
  have sxe:=sx.trans se.x
  generalize upd H' pe (.lst [])=G1 at *
  rw [List.length_cons] at le
  refine ⟨fun σ2 H2=>∃ m',m'<(a :: ls).length∧∃ (ls fs:List Nat),σ2=[some (.ref p),some (.ref b),some (.ref l),some (.ref F)]∧Pen H2 p lp ns∧H2 l=some (.lst (ls.map bY))∧H2 F=some (.lst (fs.map bY))∧SameX p H H2∧ls.length=m'∧(fs++ls).Perm os,fun _ _ h=>h,?_⟩
  refine ⟨_,rfl, .inl ⟨rfl,_, .of eFe⟩,_,rfl, .inl ⟨rfl,_, .of ele⟩,_,rfl,_,rfl,l,_,rfl, .inl (.of ele),p,lp,ns,ls.length+1,by rw [List.length_map,List.length_cons];rfl,hPe,by omega,Nat.lt_of_le_of_lt (show ls.length+1≤8 by omega) (by decide),fun r H2 hr hP2 sx2=>?_⟩
  have el2:H2 l=some (.lst ((a :: ls).map bY)):=sx2 _ _ nl.1 ele
  have eF2:H2 F=some (.lst (fs.map bY)):=sx2 _ _ nF.1 eFe
  have hr':r<(a :: ls).length:=by rw [List.length_cons];exact hr
  refine ⟨l,_,_,r,bY (a :: ls)[r],rfl,rfl,el2,by omega,by omega,by rw [List.length_map];exact aCF hr',by rw [List.getElem?_map,List.getElem?_eq_getElem hr'];rfl,?_⟩
  rw [pX]
  refine ⟨F,fs.map bY,_,rfl,rfl,by rw [aP (Ne.symm lF)];exact eF2,Nat.lt_of_le_of_lt (show (fs.map bY).length≤8 by rw [List.length_map];omega) (by decide),?_⟩
  refine ⟨ls.length,by rw [List.length_cons];omega,(a :: ls).eraseIdx r,fs++[(a :: ls)[r]],rfl,(hP2.upd nl.1 nl.2).upd nF.1 nF.2,by rw [aP lF];exact aF,by rw [aF,List.map_append];rfl,fun c o hc e=>?_,by rw [List.length_eraseIdx_of_lt hr'];rfl,(mQ hr').trans pm⟩
  rw [aP (aQ e hFH),aP (aQ e hl)]
  exact sx2 _ _ hc (sxe _ _ hc e)
end
end K45
namespace K45
open PySem L2
theorem aBQ {n d a:Nat}(h:a≤n):HT.sIx n d (some (a:Int))=a:=by
 unfold HT.sIx
 simp
 rw [if_neg (by omega)]
 omega
theorem aCz (ps:List Nat)(a:Nat)(h:a≤ps.length):lY (ps.map bY) none (some (a:Int))=(ps.take a).map bY:=by
 unfold lY
 have e2:HT.sIx (ps.map bY).length (ps.map bY).length (some (a:Int))=a:=by rw [List.length_map];exact aBQ (by omega)
 have e1:HT.sIx (ps.map bY).length 0 none=0:=rfl
 rw [e1,e2,List.map_take,List.drop_zero,Nat.sub_zero]
theorem aBk (ps:List Nat)(a:Nat)(h:a≤ps.length):lY (ps.map bY) (some (a:Int)) none=(ps.drop a).map bY:=by
 unfold lY
 have e1:HT.sIx (ps.map bY).length 0 (some (a:Int))=a:=by rw [List.length_map];exact aBQ (by omega)
 have e2:HT.sIx (ps.map bY).length (ps.map bY).length none=ps.length:=by rw [List.length_map];rfl
 rw [e1,e2,List.map_drop]
 exact List.take_of_length_le (by rw [List.length_drop,List.length_map];exact Nat.le_refl _)
theorem aCS (ps:List Nat)(a b:Nat)(h:a≤b)(hb:b≤ps.length):lY (ps.map bY) (some (a:Int)) (some (b:Int))=((ps.drop a).take (b - a)).map bY:=by
 unfold lY
 have e1:HT.sIx (ps.map bY).length 0 (some (a:Int))=a:=by rw [List.length_map];exact aBQ (by omega)
 have e2:HT.sIx (ps.map bY).length (ps.map bY).length (some (b:Int))=b:=by rw [List.length_map];exact aBQ (by omega)
 rw [e1,e2,List.map_take,List.map_drop]
section
variable {K:PySem.W.Frag}{σ:St}{H:Hp}
noncomputable def Gv (K:PySem.W.Frag) (t:TE) (σ:St) (H:Hp) (xs:List Nat):Prop:=∀ H1,Same H H1→∀ Q:VK,(∀ p H2,Same H1 H2→SqT K H2 p (xs.map bY)→Q (.ref p) H2)→t σ H1 Q
theorem yZ {i:Nat}{a:Addr}{ps:List Nat}(hv:σ[i]?=some (some (.ref a)))(h:SqT K H a (ps.map bY)):Gv K (aD i) σ H ps:=fun H1 s1 Q q=>⟨_,hv,q a H1 (Same.refl _) (s1.tup h)⟩
theorem aAS {ta tb:TE}{xs ys:List Nat}(ha:Gv K ta σ H xs)(hb:Gv K tb σ H ys)(hz:xs.length+ys.length≤100):Gv K (tOp (bJ K) ta tb) σ H (xs++ys):=fun H1 s1 Q q=>ha H1 s1 _ fun p H2 s2 hp=>hb H2 (s1.trans s2) _ fun r H3 s3 hr => .inr ⟨p,r,_,_,rfl,rfl,s3.tup hp,hr,by rw [List.length_map,List.length_map];exact Nat.le_trans hz (by decide),fun z H4 _ hz' s4=>q z H4 ((s2.trans s3).trans s4) (by rw [List.map_append];exact hz')⟩
theorem xM {t te:TE}{σ:St}{H:Hp}{k:Nat}{ps:List Nat}(h:Gv K t σ H ps)(hk:∀ H' Q,Q (.int (k:Int)) H'→te σ H' Q)(hl:k≤ps.length):Gv K (tSl (mH K) t (dF te) cI) σ H (ps.drop k):=fun H1 s1 Q q=>h H1 s1 _ fun p H2 s2 hp=>hk _ _ ⟨_,rfl, .inr ⟨p,_,rfl,hp,fun z H3 s3 hz=>q z H3 (s2.trans s3) (by rw [aBk _ _ hl] at hz;exact hz)⟩⟩
theorem zV {t ta te:TE}{σ:St}{H:Hp}{k m:Nat}{ps:List Nat}(h:Gv K t σ H ps)(ha:∀ H' Q,Q (.int (k:Int)) H'→ta σ H' Q)(he:∀ H' Q,Q (.int (m:Int)) H'→te σ H' Q)(hkm:k≤m)(hl:m≤ps.length):Gv K (tSl (mH K) t (dF ta) (dF te)) σ H ((ps.drop k).take (m - k)):=fun H1 s1 Q q=>h H1 s1 _ fun p H2 s2 hp=>ha _ _ ⟨_,rfl,he _ _ ⟨_,rfl, .inr ⟨p,_,rfl,hp,fun z H3 s3 hz=>q z H3 (s2.trans s3) (by rw [aCS _ _ _ hkm hl] at hz;exact hz)⟩⟩⟩
end
noncomputable def wI:List Int→Int
 | []=>0
 | [a]=>a
 | a :: b :: l=>min a (wI (b :: l))
theorem uG:∀ {l:List Int} {k:Int},k∈l→wI l≤k
 | [],_,h=>by cases h
 | [a],k,h=>by rw [List.mem_singleton.mp h];exact Int.le_refl _
 | a :: b :: l,k,h=>by
  rw [wI]
  rcases List.mem_cons.mp h with rfl | h
  ·omega
  ·have:=uG h;omega
theorem sG:∀ {l:List Int},l≠[]→wI l∈l
 | [],h=>absurd rfl h
 | [a],_=>by simp [wI]
 | a :: b :: l,_=>by
  have:=sG (l:=b :: l) (by simp)
  rw [wI]
  rcases Int.le_total a (wI (b :: l)) with c | c
  ·rw [Int.min_eq_left c];simp
  ·rw [Int.min_eq_right c];exact List.mem_cons_of_mem _ this
theorem tU {l:List Int}{m:Int}(h:m∈l)(h2:∀ k∈l,m≤k):m=wI l:=by
 have a:=uG h
 have b:=h2 _ (sG (fun e=>by rw [e] at h;cases h))
 omega
noncomputable def pm (T:List (List Int)):Nat→List Nat→Int
 | 0,_=>0
 | _+1,[]=>0
 | m+1,x :: r=>wI ((List.range r.length).map fun j=>at2 T x (r.getD j 0)+pm T m (r.eraseIdx j))
noncomputable def xH (L:List (Nat × Nat)):List Nat:=L.flatMap fun e=>[e.1,e.2]
structure PL (T:List (List Int))(n:Nat)(some:List Nat)(v:Int)(L:List (Nat × Nat)):Prop where
 pe:(xH L).Perm some
 sum:aBY T L=v
 lt:∀ e∈L,e.1<e.2∧e.2<n
 up:L.Pairwise fun a b=>a.1<b.1
theorem PL.nil {T:List (List Int)}{n:Nat}:PL T n [] 0 []:=⟨List.Perm.refl _,rfl,(fun _ h=>nomatch h),List.Pairwise.nil⟩
theorem xQ {L:List (Nat × Nat)}{e:Nat × Nat}(h:e∈L):e.1∈xH L:=List.mem_flatMap.mpr ⟨e,h,by simp⟩
theorem kG:∀ L:List (Nat × Nat),(xH L).length=2*L.length
 | []=>rfl
 | e :: L=>by
  show (e.1 :: e.2 :: xH L).length=_
  rw [List.length_cons,List.length_cons,List.length_cons,kG L]
  omega
theorem PL.cons {T:List (List Int)}{n x j:Nat}{r:List Nat}{v:Int}{L:List (Nat × Nat)}(hj:j<r.length)(inc:(x :: r).Pairwise (· < ·))(lt:∀ y∈x :: r,y<n)(h:PL T n (r.eraseIdx j) v L):PL T n (x :: r) (at2 T x (r.getD j 0)+v) ((x,r.getD j 0) :: L):=by
 have inc':=List.pairwise_cons.mp inc
 have er:r.getD j 0=r[j]:=by rw [List.getD_eq_getElem?_getD,List.getElem?_eq_getElem hj];rfl
 have mj:r.getD j 0∈r:=by rw [er];exact List.getElem_mem hj
 refine ⟨?_,?_,fun e he=>?_,List.pairwise_cons.mpr ⟨fun e he=>?_,h.up⟩⟩
 ·show (x :: r.getD j 0 :: xH L).Perm (x :: r)
  refine List.Perm.cons x ?_
  rw [er]
  exact (List.Perm.cons _ h.pe).trans (mQ (fs:=[]) hj)
 ·show at2 T x (r.getD j 0)+aBY T L=_
  rw [h.sum]
 ·rcases List.mem_cons.mp he with rfl | he
  ·exact ⟨inc'.1 _ mj,lt _ (List.mem_cons_of_mem _ mj)⟩
  ·exact h.lt e he
 ·exact inc'.1 _ (List.mem_of_mem_eraseIdx (h.pe.mem_iff.mp (xQ he)))
theorem PL.srt {T:List (List Int)}{n:Nat}{some:List Nat}{v:Int}{L:List (Nat × Nat)}(h:PL T n some v L):(prN L).Pairwise (fun a b=>cO b a=false):=by
 unfold prN
 rw [List.pairwise_map]
 refine h.up.imp fun {a b} q=>?_
 rw [cO,if_neg (by omega)]
 exact decide_eq_false (by omega)
theorem PL.len {T:List (List Int)}{n:Nat}{some:List Nat}{v:Int}{L:List (Nat × Nat)}(h:PL T n some v L):2*L.length=some.length:=by rw [← h.pe.length_eq,kG]
theorem uO {x j:Nat}{r:List Nat}(h:(x :: r).Pairwise (· < ·)):(r.eraseIdx j).Pairwise (· < ·):=(List.pairwise_cons.mp h).2.sublist (List.eraseIdx_sublist ..)
theorem qA {x j:Nat}{r:List Nat}:((x :: r).drop 1).take (j+1 - 1)++(x :: r).drop (j+1+1)=r.eraseIdx j:=by
 rw [List.eraseIdx_eq_take_drop_succ]
 rfl
end K45
namespace K45
open PySem L2
section
variable {K:PySem.W.Frag}
theorem yS {T:List (List Int)}{n i j:Nat}(qT:Quad T n)(hi:i<n)(hj:j<n):((T.getD i []).map V.int)[j]?=some (.int (at2 T i j)):=by
 obtain ⟨row,e1,e2,e3⟩:=qT.get hi
 unfold at2
 rw [e3,List.getElem?_map,List.getElem?_eq_getElem (by omega),List.getD_eq_getElem?_getD,List.getElem?_eq_getElem (by omega)]
 rfl
noncomputable def vl (T:List (List Int)) (m x:Nat) (r:List Nat) (j:Nat):Int:=at2 T x (r.getD j 0)+pm T m (r.eraseIdx j)
noncomputable def aAw (K:PySem.W.Frag):Nat→Sp
 | 0=>fun _ _ _ _=>False
 | m+1=>fun vs H Q _=>∃ (v:V) (b:Addr) (T:List (List Int)) (n:Nat) (so:List Nat) (k:Nat),vs=[v, .ref b]∧Sh K H (jY T) v∧Quad T n∧n≤8∧SqT K H b (so.map bY)∧so.Pairwise (· < ·)∧(∀ y∈so,y<n)∧so.length=2*k∧k≤m ∧
  ∀ p c ys L H',Same H H'→H c=none→H' p=some (.tup [.int (pm T (m+1) so), .ref c])→H' c=some (.lst ys)→Rows K H' ys (prN L)→PL T n so (pm T (m+1) so) L→Q (.ref p) H'
noncomputable def Ent (K:PySem.W.Frag) (H H':Hp) (F:Addr) (T:List (List Int)) (n m x:Nat) (r:List Nat) (xs:List V) (j:Nat) (L:List (Nat × Nat)):Prop:=
 ∃ b c ys,xs[j]?=some (.ref b)∧H' b=some (.tup [.int (vl T m x r j), .ref c])∧c≠F∧H' c=some (.lst ys)∧H c=none∧Rows K H' ys (prN L)∧PL T n (x :: r) (vl T m x r j) L
theorem qG {n:Nat}:∀ (so:List Nat),so.Pairwise (· < ·)→(∀ y∈so,y<n)→so.length≤n:=by
 intro so inc lt
 have nd:so.Nodup:=List.nodup_iff_pairwise_ne.mpr (inc.imp fun h=>Nat.ne_of_lt h)
 have:∀ (n:Nat) (l:List Nat),l.Nodup→(∀ x∈l,x<n)→l.length≤n:=by
  intro n
  induction n with
  | zero=>
   intro l _ h
   cases l with
   | nil=>exact Nat.le_refl _
   | cons a l=>have:=h a (by simp);omega
  | succ n ih=>
   intro l nd h
   by_cases c:n∈l
   ·have a:=ih (l.erase n) (nd.erase n) fun x hx=>by
     have h1:=h x (List.mem_of_mem_erase hx)
     have h2:x≠n:=fun e=>by rw [e] at hx;exact (List.Nodup.not_mem_erase nd) hx
     omega
    rw [List.length_erase_of_mem c] at a
    omega
   ·have:=ih l nd fun x hx=>by
     have h1:=h x hx
     have h2:x≠n:=fun e=>c (e ▸ hx)
     omega
    omega
 exact this n so nd lt
theorem aCc (m:Nat):∀ vs H Q E,aAw K (m+1) vs H Q E→fY K (aAw K m) { nx:=fun _ H'=>Q .non H',rt:=Q } (bQ ["table","some","first","tried","at","rest","pairs"] vs) H:=by
 intro vs H Q E h
 obtain ⟨v,b,T,n,so,k,rfl,hS,qT,n8,hb,inc,lt,hk,hkm,q⟩:=h
 have sl:=qG so inc lt
 refine ⟨_,rfl,show 0≤sizeLine by decide,fun e he=>?_⟩
 have s0:=aJ he (.tup [])
 refine ⟨.tup ((so.map fun p:Nat=>(p:Int)).map Dt.int), .tup [],by rw [dep,gE];omega,⟨b,_,rfl,s0.tup hb,by rw [gG];exact ShL.ints _⟩,⟨e,[],rfl, .of aF,rfl⟩,_,rfl,?_⟩
 cases so with
 | nil=>
  refine iA (by simp [eqD,eqL]) ⟨show 0≤sizeLine by decide,fun c hc=>⟨show 2≤sizeLine by decide,fun p hp=>?_⟩⟩
  have s1:=aJ hc (.lst [])
  have s2:=aJ hp (.tup [.int 0, .ref c])
  exact q p c [] [] _ ((s0.trans s1).trans s2) (s0.free hc) aF (s2 _ _ aF) Rows.nil PL.nil
 | cons x r=>
  refine dD (by simp [eqD,eqL]) ?_
  have hx:x<n:=lt x (by simp)
  rw [List.length_cons] at hk sl
  refine ⟨_,rfl,ixT (j:=0) (s0.tup hb) rfl ⟨show 0≤sizeLine by decide,fun F hF=>?_⟩⟩
  have s1:=aJ hF (.lst [])
  have s01:=s0.trans s1
  have hFH:=s0.free hF
  refine ⟨_,rfl,b,_,rfl, .inr (s01.tup hb),1,((r.length+1:Nat):Int),by rw [List.length_map,List.length_cons],⟨by omega,by omega,by omega,by omega⟩,?_⟩
  rw [show (((r.length+1:Nat):Int) - 1).toNat=r.length by omega]
  have hF1:(upd (upd H e (.tup [])) F (.lst [])) F=some (.lst []):=aF
  show jE _ _ _ _ ([some v,some (.ref b),some (bY x),some (.ref F),none,none,none]:St) _
  generalize upd (upd H e (.tup [])) F (.lst [])=G1 at *
  refine cG (lo:=1) (n:=r.length) (fun i σ' H'=>i≤r.length∧(∃ x4 x5 x6,σ'=[some v,some (.ref b),some (bY x),some (.ref F),x4,x5,x6])∧Same H H'∧∃ (xs:List V) (Ls:List (List (Nat × Nat))),H' F=some (.lst xs)∧xs.length=i∧Ls.length=i∧∀ (j:Nat) (L:List (Nat × Nat)),Ls[j]?=some L→Ent K H H' F T n m x r xs j L) ⟨Nat.zero_le _,⟨_,_,_,rfl⟩,s01,[],[],hF1,rfl,rfl,fun j L h=>by cases h⟩ (fun i σ' H' hi ⟨_,⟨x4,x5,x6,es⟩,s2,xs,Ls,hF2,lx,lL,ent⟩=>?_) fun σ' H' ⟨_,⟨x4,x5,x6,es⟩,s2,xs,Ls,hF2,lx,lL,ent⟩=>?_
  ·subst es
   have ek:(1:Int)+(i:Int)=((i+1:Nat):Int):=by omega
   show aR _ _ _ ([some v,some (.ref b),some (bY x),some (.ref F),some (.int ((1:Int)+(i:Int))),x5,x6]:St) H'
   rw [ek]
   have hy:r.getD i 0∈r:=by rw [List.getD_eq_getElem?_getD,List.getElem?_eq_getElem hi];exact List.getElem_mem hi
   have hyn:r.getD i 0<n:=lt _ (List.mem_cons_of_mem _ hy)
   have gcat:Gv K (tOp (bJ K) (tSl (mH K) (aD 1) (dF (tC (.int 1))) (dF (aD 4))) (tSl (mH K) (aD 1) (dF (tOp (bJ K) (aD 4) (tC (.int 1)))) cI)) [some v,some (.ref b),some (bY x),some (.ref F),some (.int ((i+1:Nat):Int)),x5,x6] H' (((x :: r).drop 1).take (i+1 - 1)++(x :: r).drop (i+1+1)):=
    aAS (zV (k:=1) (m:=i+1) (yZ rfl (s2.tup hb)) (fun H' Q h=>h) (fun H' Q h=>⟨_,rfl,h⟩) (by omega) (by rw [List.length_cons];omega)) (xM (k:=i+1+1) (yZ rfl (s2.tup hb)) (fun H' Q h=>⟨_,rfl,h⟩) (by rw [List.length_cons];omega)) (by rw [List.length_take,List.length_drop,List.length_drop,List.length_cons];omega)
   rw [qA] at gcat
   refine ⟨_,rfl,gcat H' (Same.refl _) _ fun b2 H2 s3 hb2=>?_⟩
   have le:(r.eraseIdx i).length=r.length - 1:=List.length_eraseIdx_of_lt hi
   have s03:=s2.trans s3
   cases m with
   | zero=>omega
   | succ m=>
    refine ⟨v,b2,T,n,r.eraseIdx i,k - 1,rfl,hS.same s03,qT,n8,hb2,uO inc,fun y hy=>lt y (List.mem_cons_of_mem _ (List.mem_of_mem_eraseIdx hy)),by omega,by omega,fun p c ys L H3 s4 hc0 hp hc hr pl=>?_⟩
    have s04:=s03.trans s4
    have hF3:=s4 _ _ (s3 _ _ hF2)
    refine ⟨p,_,rfl, .of hp,rfl, .int (pm T (m+1) (r.eraseIdx i)),[.ref c],rfl, .ref c,[],rfl,rfl,?_⟩
    refine ⟨_,rfl, .inl ⟨rfl,_, .of hF3⟩,_,rfl,_,rfl,qS (hS.same s04) qT hx fun rb hrb=>⟨_,rfl,_,rfl,ixT (j:=i+1) (v:=bY (r.getD i 0)) (s04.tup hb) ?_ (ixT (j:=r.getD i 0) hrb (yS qT hx hyn) ⟨_,rfl,?_⟩)⟩⟩
    ·rw [List.map_cons,List.getElem?_cons_succ,List.getElem?_map,List.getElem?_eq_getElem hi,List.getD_eq_getElem?_getD,List.getElem?_eq_getElem hi]
     rfl
    refine ⟨_,rfl,_,rfl,_,rfl,ixT (j:=i+1) (v:=bY (r.getD i 0)) (s04.tup hb) ?_ ⟨show 2≤sizeLine by decide,fun u hu=>⟨show 1≤sizeLine by decide,fun l1 hl1=>⟨_,rfl,?_⟩⟩⟩⟩
    ·rw [List.map_cons,List.getElem?_cons_succ,List.getElem?_map,List.getElem?_eq_getElem hi,List.getD_eq_getElem?_getD,List.getElem?_eq_getElem hi]
     rfl
    have s5:=aJ hu (.tup [bY x,bY (r.getD i 0)])
    have s6:=aJ hl1 (.lst [V.ref u])
    have yl:ys.length≤8:=by rw [hr.1];unfold prN;rw [List.length_map];have:=pl.len;omega
    refine .inl ⟨l1,c,[.ref u],ys,rfl,rfl,aF,s6 _ _ (s5 _ _ hc),Nat.le_trans (show 1+ys.length≤9 by omega) (by decide),fun G hG=>⟨show 2≤sizeLine by decide,fun tp htp=>?_⟩⟩
    have s7:=aJ hG (.lst ([.ref u]++ys))
    have s8:=aJ htp (.tup [.int (at2 T x (r.getD i 0)+pm T (m+1) (r.eraseIdx i)), .ref G])
    have s58:=((s5.trans s6).trans s7).trans s8
    have hG8:=s8 _ _ (show upd _ G (.lst ([.ref u]++ys)) G=some (.lst ([.ref u]++ys)) from aF)
    have htp8:upd _ tp (.tup [.int (at2 T x (r.getD i 0)+pm T (m+1) (r.eraseIdx i)), .ref G]) tp=some (.tup [.int (at2 T x (r.getD i 0)+pm T (m+1) (r.eraseIdx i)), .ref G]):=aF (H:=upd (upd (upd H3 u (.tup [bY x,bY (r.getD i 0)])) l1 (.lst [V.ref u])) G (.lst ([.ref u]++ys)))
    have hu8:=s8 _ _ (s7 _ _ (s6 _ _ (show upd H3 u (.tup [bY x,bY (r.getD i 0)]) u=some (.tup [bY x,bY (r.getD i 0)]) from aF)))
    have hr8:=hr.same s58
    have hF8:=s58 _ _ hF3
    have hGF:G≠F:=fun z=>by
     have:=s6 _ _ (s5 _ _ hF3)
     rw [← z,hG] at this;cases this
    have hG0:H G=none:=((s04.trans s5).trans s6).free hG
    refine ⟨F,xs,_,rfl,rfl,hF8,Nat.lt_of_le_of_lt (show xs.length≤8 by omega) (by decide),?_⟩
    generalize upd (upd (upd (upd H3 u (.tup [bY x,bY (r.getD i 0)])) l1 (.lst [V.ref u])) G (.lst ([.ref u]++ys))) tp (.tup [.int (at2 T x (r.getD i 0)+pm T (m+1) (r.eraseIdx i)), .ref G])=G8 at *
    have s2F:Same H (upd G8 F (.lst (xs++[.ref tp]))):=fun a o ea=>by rw [aP (aQ ea hFH)];exact s58 _ _ (s04 _ _ ea)
    refine ⟨hi,⟨_,_,_,rfl⟩,s2F,xs++[.ref tp],Ls++[(x,r.getD i 0) :: L],aF,by rw [List.length_append,lx];rfl,by rw [List.length_append,lL];rfl,fun j L' hj=>?_⟩
    by_cases hji:j<i
    ·rw [List.getElem?_append_left (by omega)] at hj
     obtain ⟨b',c',ys',g1,g2,g3,g4,g5,g6,g7⟩:=ent j L' hj
     have s38:=((s3.trans s4).trans s58)
     refine ⟨b',c',ys',by rw [List.getElem?_append_left (by omega)];exact g1,?_,g3,by rw [aP g3];exact s38 _ _ g4,g5,Rows.put (g6.same s38) hF8,g7⟩
     rw [aP (ne_of g2 hF2 (fun z=>nomatch z))]
     exact s38 _ _ g2
    ·have:j=i:=by
      have:=(List.getElem?_eq_some_iff.mp hj).1
      rw [List.length_append,lL,List.length_singleton] at this
      omega
     subst this
     rw [List.getElem?_append_right (by omega),lL,Nat.sub_self] at hj
     cases hj
     refine ⟨tp,G,[.ref u]++ys,by rw [List.getElem?_append_right (by omega),lx,Nat.sub_self];rfl,?_,hGF,by rw [aP hGF];exact hG8,hG0,Rows.put ?_ hF8,PL.cons hi inc lt pl⟩
     ·rw [aP (ne_of htp8 hF8 (fun z=>nomatch z))]
      exact htp8
     ·refine ⟨by rw [List.length_append,hr8.1];unfold prN;rw [List.length_map,List.length_map,List.length_cons];simp;omega,fun a row ea=>?_⟩
      cases a with
      | zero=>cases ea;exact ⟨u,rfl, .of hu8⟩
      | succ a=>exact hr8.2 a row ea
  ·subst es
   have rp:0<r.length:=by omega
   refine ⟨_,rfl,F,k,xs,(List.range r.length).map fun j=>(vl T m x r j,prN (Ls.getD j [])),rfl, .inl (.of hF2),⟨by rw [List.length_map,List.length_range,lx],fun i p hp=>?_⟩,fun z=>?_,fun b' p i hT hxi hmin=>?_⟩
   ·rw [List.getElem?_map] at hp
    obtain ⟨i',hi',rfl⟩:=Option.map_eq_some_iff.mp hp
    have hi2:i<r.length:=by have:=(List.getElem?_eq_some_iff.mp hi').1;rwa [List.length_range] at this
    have ei:i'=i:=by rw [List.getElem?_range hi2] at hi';exact (Option.some.inj hi').symm
    subst ei
    have hL:Ls[i']?=some (Ls.getD i' []):=by rw [List.getD_eq_getElem?_getD,List.getElem?_eq_getElem (by omega)];rfl
    obtain ⟨b',c',ys',g1,g2,g3,g4,g5,g6,g7⟩:=ent i' _ hL
    refine ⟨?_,fun row hrow=>?_,b',c',ys',g1, .of g2, .of g4,g6⟩
    ·show (prN _).length=k
     unfold prN
     rw [List.length_map]
     have:=g7.len
     rw [List.length_cons] at this
     omega
    ·obtain ⟨e,_,rfl⟩:=List.mem_map.mp hrow
     rfl
   ·have:=congrArg List.length z
    rw [List.length_map,List.length_range] at this
    have:r.length=0:=this
    omega
   ·rw [List.getElem?_map] at hT
    obtain ⟨i',hi',rfl⟩:=Option.map_eq_some_iff.mp hT
    have hi2:i<r.length:=by have:=(List.getElem?_eq_some_iff.mp hi').1;rwa [List.length_range] at this
    have ei:i'=i:=by rw [List.getElem?_range hi2] at hi';exact (Option.some.inj hi').symm
    subst ei
    have hL:Ls[i']?=some (Ls.getD i' []):=by rw [List.getD_eq_getElem?_getD,List.getElem?_eq_getElem (by omega)];rfl
    obtain ⟨b2,c',ys',g1,g2,g3,g4,g5,g6,g7⟩:=ent i' _ hL
    rw [g1] at hxi
    cases hxi
    have ev:vl T m x r i'=pm T (m+1) (x :: r):=by
     show _=wI _
     refine tU (List.mem_map.mpr ⟨i',List.mem_range.mpr hi2,rfl⟩) fun w hw=>?_
     obtain ⟨j,hj,rfl⟩:=List.mem_map.mp hw
     exact hmin (vl T m x r j,prN (Ls.getD j [])) (List.mem_map.mpr ⟨j,hj,rfl⟩)
    rw [ev] at g2 g7
    exact q b' c' ys' _ H' s2 g5 g2 g4 g6 g7
end
end K45
namespace K45
open PySem L2
section
variable {K:PySem.W.Frag}
noncomputable def aAy (K : PySem.W.Frag) (C : Addr) : Sp := fun vs H Q E => ∃ (v x : V) (T : List (List Int)) (n : Nat), vs = [v, x] ∧ Sh K H (jY T) v ∧ Quad T n ∧ 1 ≤ n ∧ n ≤ 8 ∧
  ((∃ (b : Addr) (so : List Nat) (k : Nat), x = .ref b ∧ Sy T n ∧ SqT K H b (so.map bY) ∧ so.Pairwise (· < ·) ∧ (∀ y ∈ so, y < n) ∧ so.length = 2 * k ∧
      ∀ p c ys L H', Same H H' → H c = none → H' p = some (.tup [.int (pm T 5 so), .ref c]) → H' c = some (.lst ys) → Rows K H' ys (prN L) → PL T n so (pm T 5 so) L → Q (.ref p) H') ∨
   ((gL T n).all id = false ∧ ∀ H', Same H H' → E (.ref C) none H'))
theorem aCt {C:Addr}:∀ vs H Q E,aAy K C vs H Q E→oQ K E (aAw K 5) (aBL K C) { nx:=fun _ H'=>Q .non H',rt:=Q } (bQ ["table","some"] vs) H:=by
 intro vs H Q E h
 obtain ⟨v,x,T,n,rfl,hS,qT,n1,n8,h⟩:=h
 refine ⟨_,rfl,v,T,n,rfl,hS,qT,n1,n8,?_⟩
 rcases h with ⟨b,so,k,rfl,sy,hb,inc,lt,hk,q⟩ | ⟨nev,q⟩
 ·refine .inl ⟨sy,fun H1 s1=>?_⟩
  have:=qG so inc lt
  exact ⟨_,rfl,_,rfl,v,b,T,n,so,k,rfl,hS.same s1,qT,n8,s1.tup hb,inc,lt,hk,show k≤4 by omega,fun p c ys L H2 s2 hc hp hcl hr pl=>q p c ys L H2 (s1.trans s2) (s1.free hc) hp hcl hr pl⟩
 ·exact .inr ⟨nev,q⟩
noncomputable def aAv (K:PySem.W.Frag):Nat→Sp
 | 0=>fun _ _ _ _=>False
 | m+1=>fun vs H Q _=>∃ (v:V) (b:Addr) (T:List (List Int)) (n:Nat) (so:List Nat) (k:Nat),vs=[v, .ref b]∧Sh K H (jY T) v∧Quad T n∧n≤8∧H b=some (.lst (so.map bY))∧so.length≤8∧(∀ y∈so,y<n)∧so.length=2*k∧k≤m∧∀ H',Same H H'→Q (.int (pm T (m+1) so)) H'
theorem wO {r:List Nat}{x i:Nat}(hi:i<r.length):((x :: r).map bY)[i+1]?=some (bY (r.getD i 0)):=by
 rw [List.map_cons,List.getElem?_cons_succ,List.getElem?_map,List.getElem?_eq_getElem hi,List.getD_eq_getElem?_getD,List.getElem?_eq_getElem hi]
 rfl
theorem aBU (m:Nat):∀ vs H Q E,aAv K (m+1) vs H Q E→dQ K (aAv K m) { nx:=fun _ H'=>Q .non H',rt:=Q } (bQ ["table","some","found","at","left"] vs) H:=by
 intro vs H Q E h
 obtain ⟨v,b,T,n,so,k,rfl,hS,qT,n8,hb,sl,lt,hk,hkm,q⟩:=h
 refine ⟨_,rfl,b,_,rfl, .inl (.of hb), .int _, .int 0,Nat.zero_le _,rfl,rfl,_,rfl,?_⟩
 cases so with
 | nil=>exact iA rfl (q H (Same.refl _))
 | cons x r=>
  refine dD (by rw [List.length_map,List.length_cons,eqD];simp;omega) ?_
  have hx:x<n:=lt x (by simp)
  rw [List.length_cons] at hk sl
  refine ⟨show 0≤sizeLine by decide,fun F hF=>?_⟩
  have s1:=aJ hF (.lst [])
  refine ⟨_,rfl,b,_,rfl, .inl (.of (s1 _ _ hb)),1,((r.length+1:Nat):Int),by rw [List.length_map,List.length_cons],⟨by omega,by omega,by omega,by omega⟩,?_⟩
  rw [show (((r.length+1:Nat):Int) - 1).toNat=r.length by omega]
  have bF:b≠F:=aQ hb hF
  refine cG (lo:=1) (n:=r.length) (fun i σ' H'=>i≤r.length∧(∃ x3 x4,σ'=[some v,some (.ref b),some (.ref F),x3,x4])∧Same H H'∧H' F=some (.lst (((List.range i).map fun j=>vl T m x r j).map V.int))) ⟨Nat.zero_le _,⟨_,_,rfl⟩,s1,aF⟩ (fun i σ' H' hi ⟨_,⟨x3,x4,es⟩,s2,hF2⟩=>?_) fun σ' H' ⟨_,⟨x3,x4,es⟩,s2,hF2⟩=>?_
  ·subst es
   have ek:(1:Int)+(i:Int)=((i+1:Nat):Int):=by omega
   show aR _ _ _ ([some v,some (.ref b),some (.ref F),some (.int ((1:Int)+(i:Int))),x4]:St) H'
   rw [ek]
   have hy:r.getD i 0∈r:=by rw [List.getD_eq_getElem?_getD,List.getElem?_eq_getElem hi];exact List.getElem_mem hi
   have hyn:r.getD i 0<n:=lt _ (List.mem_cons_of_mem _ hy)
   refine ⟨_,rfl,_,rfl,((1:Nat):Int),rfl,_,rfl,_,rfl, .inl ⟨b,_,rfl, .of (s2 _ _ hb),fun p1 hp1=>?_⟩⟩
   rw [aCS _ 1 (i+1) (by omega) (by rw [List.length_cons];omega)]
   have s3:=aJ hp1 (.lst ((((x :: r).drop 1).take (i+1 - 1)).map bY))
   refine ⟨_,rfl,_,rfl,((i+1+1:Nat):Int),rfl, .inl ⟨b,_,rfl, .of (s3 _ _ (s2 _ _ hb)),fun p2 hp2=>?_⟩⟩
   rw [aBk _ (i+1+1) (by rw [List.length_cons];omega)]
   have s4:=aJ hp2 (.lst (((x :: r).drop (i+1+1)).map bY))
   refine .inl ⟨p1,p2,_,_,rfl,rfl,s4 _ _ aF,aF,?_,fun p3 hp3=>?_⟩
   ·rw [List.length_map,List.length_map,List.length_take,List.length_drop,List.length_drop,List.length_cons]
    exact Nat.le_trans (show _≤40 by omega) (by decide)
   rw [← List.map_append,qA]
   have s5:=aJ hp3 (.lst ((r.eraseIdx i).map bY))
   have s05:=((s2.trans s3).trans s4).trans s5
   have le:(r.eraseIdx i).length=r.length - 1:=List.length_eraseIdx_of_lt hi
   cases m with
   | zero=>omega
   | succ m=>
    refine ⟨v,p3,T,n,r.eraseIdx i,k - 1,rfl,hS.same s05,qT,n8,aF,by omega,fun y hy=>lt y (List.mem_cons_of_mem _ (List.mem_of_mem_eraseIdx hy)),by omega,by omega,fun H3 s6=>?_⟩
    have s06:=s05.trans s6
    have hF3:=s6 _ _ (s5 _ _ (s4 _ _ (s3 _ _ hF2)))
    have hb3:SqL K H3 b ((x :: r).map bY) := .of (s06 _ _ hb)
    refine ⟨_,rfl, .inl ⟨rfl,_, .of hF3⟩,_,rfl,_,rfl,_,rfl,ixL (j:=0) hb3 rfl (qS (hS.same s06) qT hx fun rb hrb=>⟨_,rfl,_,rfl,ixL (j:=i+1) hb3 (wO hi) (ixT (j:=r.getD i 0) hrb (yS qT hx hyn) ?_)⟩)⟩
    refine ⟨F,_,_,rfl,rfl,hF3,?_,?_⟩
    ·rw [List.length_map,List.length_map,List.length_range]
     exact Nat.lt_of_le_of_lt (show i≤8 by omega) (by decide)
    ·refine ⟨hi,⟨_,_,rfl⟩,fun a o ea=>by rw [aP (aQ ea hF)];exact s06 _ _ ea,?_⟩
     rw [aF,List.range_succ,List.map_append,List.map_append]
     show some (HO.lst (_++[V.int (pm T (m+1) (r.eraseIdx i)+at2 T x (r.getD i 0))]))=some (HO.lst (_++[V.int (vl T (m+1) x r i)]))
     unfold vl
     rw [Int.add_comm]
  ·subst es
   refine ⟨_,rfl, .inl ⟨F,_,rfl, .inl (.of hF2),fun z=>?_,fun w hw hmin=>?_⟩⟩
   ·have:=congrArg List.length z
    rw [List.length_map,List.length_range] at this
    have:r.length=0:=this
    omega
   ·rw [show w=pm T (m+1) (x :: r) from tU hw hmin]
    exact q H' s2
noncomputable def aBO (K:PySem.W.Frag):Sp:=fun vs H Q _=>∃ (n:Nat) (c b:Addr) (T:List (List Int)) (so:List Nat) (w:Int) (L:List (Nat × Nat)) (ys:List V),vs=[.int (n:Int), .ref c, .ref b]∧H c=some (.lst ys)∧Rows K H ys (prN L)∧PL T n so w L∧SqT K H b (so.map bY)∧so.length≤8∧∀ H',Same H H'→Q (.bl true) H'
theorem wC {a b ms ns:List Int}(h:a.Perm b)(p:ms.Perm a)(q:ns.Perm b)(s:ms.Pairwise (·≤·))(t:ns.Pairwise (·≤·)):ms=ns:=((p.trans h).trans q.symm).eq_of_pairwise (fun x y _ _ u v=>by omega) s t
theorem aBX:∀ vs H Q E,aBO K vs H Q E→eD K (xO K) { nx:=fun _ H'=>Q .non H',rt:=Q } (bQ ["many","pairs","some","ends","pair"] vs) H:=by
 intro vs H Q E h
 obtain ⟨n,c,b,T,so,w,L,ys,rfl,hc,hr,pl,hb,s8,q⟩:=h
 have yl:ys.length=L.length:=by rw [hr.1,jA]
 have l2:=pl.len
 refine ⟨_,rfl, .ref c,_,"list",rfl,by decide,hr.sh (.of hc),_,rfl,dD rfl ?_⟩
 refine ⟨show 0≤sizeLine by decide,fun F hF=>?_⟩
 have s0:=aJ hF (.lst [])
 refine ⟨_,rfl,c,rfl, .inl ⟨⟨_, .of (s0 _ _ hc)⟩,?_⟩⟩
 refine iE (K:=K) (a:=c) (xs:=ys) (fun i σ' H'=>i≤ys.length∧Same H H'∧∃ F x4,σ'=[some (.int (n:Int)),some (.ref c),some (.ref b),some (.ref F),x4]∧H' F=some (.lst ((xH (L.take i)).map bY))) ⟨Nat.zero_le _,s0,F,_,rfl,aF⟩ (fun i σ' H' _ ⟨_,s,_⟩ => .of (s _ _ hc)) (fun i x σ' H' hx ⟨_,s,F2,x4,es,hF2⟩=>?_) fun σ' H' ⟨_,s,F2,x4,es,hF2⟩=>?_
 ·subst es
  have hi:i<ys.length:=(List.getElem?_eq_some_iff.mp hx).1
  obtain ⟨e,b',he,rfl,hb'⟩:=uJ (hr.same s) hx
  obtain ⟨g1,g2⟩:=pl.lt e (List.mem_of_getElem? he)
  refine ⟨_,rfl,_,rfl,n,b',e.1,e.2,rfl,hb',g1,g2,fun H2 s2=>⟨_,rfl,dD rfl ?_⟩⟩
  refine ⟨_,rfl,_,rfl, .inl ⟨b',_,rfl, .inr (s2.tup hb'),fun l hl=>?_⟩⟩
  have s3:=aJ hl (.lst [bY e.1,bY e.2])
  refine .inl ⟨F2,l,_,_,rfl,rfl,s3 _ _ (s2 _ _ hF2),aF,?_,fun G hG=>?_⟩
  ·rw [List.length_map,kG,List.length_take]
   exact Nat.le_trans (show 2*min i L.length+2≤100 by omega) (by decide)
  have s4:=aJ hG (.lst ((xH (L.take i)).map bY++[bY e.1,bY e.2]))
  refine ⟨hi,((s.trans s2).trans s3).trans s4,G,_,rfl,?_⟩
  rw [aF,List.take_add_one,he]
  unfold xH
  rw [List.flatMap_append,List.map_append]
  rfl
 ·subst es
  rw [yl,List.take_length] at hF2
  refine ⟨_,rfl,_,rfl, .inr ⟨c,ys,prN L,rfl, .inl (.of (s _ _ hc)),hr.same s,aBE,by rw [jA];omega,fun zs R' pR srt _ hr' tl htl=>?_⟩⟩
  obtain rfl:=qL pR pl.srt srt
  have s3:=aJ htl (.lst zs)
  have s23:=s.trans s3
  refine ⟨_,_,wX (prN L),(hr.same s23).sh (.of (s23 _ _ hc)),(hr'.same s3).sh (.of aF),_,rfl,iA (nV _) ?_⟩
  refine ⟨_,rfl, .inl ⟨F2,(xH L).map fun p:Nat=>(p:Int),rfl, .inl (.of (by rw [s3 _ _ hF2,gG])),by rw [List.length_map,kG];omega,fun ms p1 t1 l1 hl1=>?_⟩⟩
  have s4:=aJ hl1 (.lst (ms.map V.int))
  refine ⟨_,rfl, .inl ⟨b,so.map fun p:Nat=>(p:Int),rfl, .inr (by rw [← gG];exact (s23.trans s4).tup hb),by rw [List.length_map];omega,fun ns p2 t2 l3 hl3=>?_⟩⟩
  obtain rfl:=wC (pl.pe.map fun p:Nat=>(p:Int)) p1 p2 t1 t2
  have s5:=aJ hl3 (.lst (ms.map V.int))
  refine ⟨.lst (ms.map Dt.int), .lst (ms.map Dt.int),by rw [dep,gE];omega,⟨l1,_,rfl, .of (s5 _ _ aF),ShL.ints _⟩,⟨l3,_,rfl, .of aF,ShL.ints _⟩,?_⟩
  rw [eqD,iJ]
  exact q _ ((s23.trans s4).trans s5)
noncomputable def aBP (K:PySem.W.Frag):Sp:=fun vs H Q _=>∃ (v:V) (b tp c:Addr) (T:List (List Int)) (n:Nat) (so:List Nat) (k:Nat) (L:List (Nat × Nat)) (ys:List V),vs=[v, .ref b, .ref tp]∧Sh K H (jY T) v∧Quad T n∧n≤8∧SqT K H b (so.map bY)∧so.Pairwise (· < ·)∧(∀ y∈so,y<n)∧so.length=2*k∧H tp=some (.tup [.int (pm T 5 so), .ref c])∧H c=some (.lst ys)∧Rows K H ys (prN L)∧PL T n so (pm T 5 so) L∧∀ H',Same H H'→Q (.bl true) H'
theorem aCj:∀ vs H Q E,aBP K vs H Q E→gU K (aBO K) (aAv K 5) (aBI K) (spW K) { nx:=fun _ H'=>Q .non H',rt:=Q } (bQ ["table","some","told","due"] vs) H:=by
 intro vs H Q E h
 obtain ⟨v,b,tp,c,T,n,so,k,L,ys,rfl,hS,qT,n8,hb,inc,lt,hk,htp,hc,hr,pl,q⟩:=h
 have sl:=qG so inc lt
 obtain ⟨a,rs,rfl,ha,hrl,_⟩:=id hS.tab
 have hrl:rs.length=n:=hrl.trans qT.len
 have l2:=pl.len
 refine ⟨_,rfl, .ref tp, .tup [.int (pm T 5 so), .lst ((prN L).map fun r=>Dt.tup (r.map Dt.int))],"tuple",rfl,by decide,⟨tp,_,rfl, .of htp,_,_,rfl,rfl,_,_,rfl,hr.sh (.of hc),rfl⟩,_,rfl,dD rfl ?_⟩
 refine ⟨_,rfl,tp,_,rfl, .inr (.of htp), .int 2, .int 2,Nat.zero_le _,rfl,rfl,_,rfl,dD rfl ?_⟩
 refine ⟨_,rfl,ixT (j:=0) (.of htp) rfl ⟨_,rfl,fun H1 s1=>⟨_,rfl,dD rfl ?_⟩⟩⟩
 refine ⟨_,rfl,a,rs,rfl, .inr (s1.tup ha),_,rfl,ixT (j:=1) (.of (s1 _ _ htp)) rfl ⟨_,rfl,n,c,b,T,so,pm T 5 so,L,ys,by rw [hrl];rfl,s1 _ _ hc,hr.same s1,pl,s1.tup hb,by omega,fun H2 s2=>⟨_,rfl,dD rfl ?_⟩⟩⟩
 have s12:=s1.trans s2
 refine ⟨_,rfl,_,rfl, .inl ⟨b,_,rfl, .inr (s12.tup hb),fun l hl=>?_⟩⟩
 have s3:=aJ hl (.lst (so.map bY))
 have s13:=s12.trans s3
 refine ⟨_,l,T,n,so,k,rfl,hS.same s13,qT,n8,aF,by omega,lt,hk,show k≤4 by omega,fun H4 s4=>?_⟩
 have s14:=s13.trans s4
 refine ⟨_,rfl,ixT (j:=0) (.of (s14 _ _ htp)) rfl ⟨_,rfl, .int _, .int _,Nat.zero_le _,rfl,rfl,_,rfl,iA (by rw [eqD];simp) ?_⟩⟩
 refine ⟨_,rfl,_,rfl,ixT (j:=1) (.of (s14 _ _ htp)) rfl ⟨_,c,T,n,ys,L,rfl,hS.same s14,qT,s14 _ _ hc,hr.same s14,fun e he=>⟨Nat.lt_trans (pl.lt e he).1 (pl.lt e he).2,(pl.lt e he).2⟩,by omega,fun H5 s5=>?_⟩⟩
 refine ⟨_,rfl, .int _, .int _,Nat.zero_le _,rfl,rfl,?_⟩
 rw [pl.sum,eqD]
 simp only [BEq.rfl]
 exact q H5 (s14.trans s5)
end
end K45
namespace K45
open PySem L2
section
variable {K:PySem.W.Frag}{C1 CN:Addr}
noncomputable def foK (K:PySem.W.Frag) (CN C1:Addr):Addr→Sp→Prop:=fun f sp=>f=C1∧sp=aAy K CN
theorem qV {ns:List Int}{os:List Nat}(h:ns.Perm (os.map fun p:Nat=>(p:Int))):∃ so:List Nat,ns=so.map (fun p:Nat=>(p:Int))∧so.Perm os:=by
 refine ⟨ns.map Int.toNat,?_,?_⟩
 ·rw [List.map_map]
  symm
  have:∀ x∈ns,((fun p:Nat=>(p:Int))∘Int.toNat) x=x:=fun x hx=>by
   obtain ⟨y,_,rfl⟩:=List.mem_map.mp (h.mem_iff.mp hx)
   rfl
  rw [List.map_congr_left this,List.map_id']
 ·have:=h.map Int.toNat
  rw [List.map_map] at this
  have e:os.map (Int.toNat∘fun p:Nat=>(p:Int))=os:=by
   have:∀ x∈os,(Int.toNat∘fun p:Nat=>(p:Int)) x=x:=fun x _=>rfl
   rw [List.map_congr_left this,List.map_id']
  rw [e] at this
  exact this
theorem aAN {so:List Nat}(h:(so.map fun p:Nat=>(p:Int)).Pairwise (·≤·))(nd:so.Nodup):so.Pairwise (· < ·):=by
 rw [List.pairwise_map] at h
 exact h.imp₂ (fun a b p q=>by omega) (List.nodup_iff_pairwise_ne.mp nd)
theorem Pen.off {H H':Hp}{p l b:Addr}{ns:List Int}(h:Pen H p l ns)(np:b≠p)(nl:b≠l)(sx:SameX b H H'):Pen H' p l ns:=by
 obtain ⟨k,z,e1,e2,e3⟩:=h
 exact ⟨k,z,sx _ _ (Ne.symm np) e1,sx _ _ (Ne.symm nl) e2,e3⟩
theorem Pen.sq {H H':Hp}{p l b:Addr}{ns:List Int}{xs:List V}(hP:Pen H p l ns)(h:SqT K H b xs)(sx:SameX p H H'):SqT K H' b xs:=by
 obtain ⟨k,z,e,_⟩:=hP
 exact sP h e sx
theorem tT {i:Int}:aBy i 2:=⟨by decide,Nat.lt_of_lt_of_le (show 2<2 ^ 2 by decide) (Nat.pow_le_pow_right (by decide) (by decide))⟩
noncomputable def wG (K:PySem.W.Frag):Sp:=fun vs H Q _=>∃ (a:Addr) (ns:List Int),vs=[.ref a]∧SqL K H a (ns.map V.int)∧ns.length≤63∧∀ H',Q (.bl true) H'
theorem aBd:∀ vs H Q E,wG K vs H Q E→aAP K C1 (aBP K) eC (sH K) (rR K) (wN K) (yN K (foK K CN C1) CN) (aBT K) (aAy K CN) { nx:=fun _ H'=>Q .non H',rt:=Q } (bQ ["script","feed","turn","table","order","most","many","some","again","told","other","bent"] vs) H:=by
 intro vs H Q E h
 obtain ⟨a,ns0,rfl,hS0,h63,q⟩:=h
 refine ⟨_,rfl,a,ns0,rfl,hS0,fun p l ns H0 s0 hP0=>?_⟩
 refine ⟨3,rfl,by decide,by decide,?_⟩
 refine cG (lo:=0) (n:=3) (fun i σ' H'=>Pen H' p l ns∧∃ x2 x3 x4 x5 x6 x7 x8 x9 x10 x11,σ'=[some (.ref a),some (.ref p),x2,x3,x4,x5,x6,x7,x8,x9,x10,x11]) ⟨hP0,_,_,_,_,_,_,_,_,_,_,rfl⟩ (fun i σ' H' hi ⟨hP,x2,x3,x4,x5,x6,x7,x8,x9,x10,x11,es⟩=>?_) fun σ' H' _=>q H'
 subst es
 refine ⟨_,rfl,p,l,ns,1,8,rfl,hP,by decide,by decide,by decide,fun T n v H1 n1 n8 qT bT sT hS1 hP1 sx1=>?_⟩
 obtain ⟨va,rs,rfl,ha,hrl,_⟩:=id hS1.tab
 have hrl:rs.length=n:=hrl.trans qT.len
 refine ⟨_,rfl,_,rfl,va,rs,rfl, .inr ha, .inl ⟨_,rfl,fun pr hpr => .inr ⟨pr,0,_,rfl,aF,⟨by omega,by omega,by omega,by omega,by omega⟩,fun b hb=>?_⟩⟩⟩
 rw [hrl,aDf]
 have s1:=aJ hpr (.rng 0 (rs.length:Int))
 have s2:=aJ hb (.lst ((List.range n).map bY))
 rw [hrl] at s1 s2
 have s12:=s1.trans s2
 refine ⟨p,l,ns,b,List.range n,rfl,hP1.x s12,aF,by rw [List.length_range];exact n8,fun O ms H2 hP2 sx2 hO0 hO pm0=>?_⟩
 have hm:ms.length=n:=by rw [pm0.length_eq,List.length_range]
 have ndm:ms.Nodup:=pm0.nodup_iff.mpr List.nodup_range
 have nO:=(hP1.x s12).ne hO0
 have hS2:Sh K H2 (jY T) (.ref va):=(hP1.x s12).tab (hS1.same s12) sx2
 obtain ⟨va2,rs2,e2,ha2,hrl2,_⟩:=id hS2.tab
 cases e2
 have hrl2:rs2.length=n:=hrl2.trans qT.len
 obtain ⟨h,eh,hh⟩:∃ h:Nat,(rs2.length:Int) / 2=(h:Int)∧2*h≤n:=⟨n / 2,by rw [hrl2];omega,by omega⟩
 refine ⟨_,rfl,va,rs2,rfl, .inr ha2,_,_,rfl,rfl,tT,?_⟩
 show fN (.int 2) (.int ((rs2.length:Int) / 2)) H2 _
 rw [eh]
 refine ⟨.inl (.inl ⟨by decide,by decide⟩),?_⟩
 obtain ⟨mo,emo,hmo⟩:∃ mo:Nat,(2:Int)*(h:Int)=(mo:Int)∧mo=2*h:=⟨2*h,by omega,rfl⟩
 show aR _ _ _ ([some (.ref a),some (.ref p),_,some (.ref va),some (.ref O),some (.int ((2:Int)*(h:Int))),x6,x7,x8,x9,x10,x11]:St) H2
 rw [emo]
 have e5:((mo:Int) / 2)+1=((h+1:Nat):Int):=by omega
 refine ⟨_,rfl,_,rfl,_,_,rfl,rfl,tT,p,l,ns,h+1,by show [V.ref p,V.int ((mo:Int) / 2+1)]=[V.ref p,V.int ((h+1:Nat):Int)];rw [e5],hP2,by omega,Nat.lt_of_le_of_lt (show h+1≤8 by omega) (by decide),fun r H3 hr hP3 sx3=>?_⟩
 refine ⟨.inl (.inl ⟨by decide,by decide⟩),?_⟩
 refine ⟨_,rfl,show 3≤sizeLine by decide,fun Z hZ=>?_⟩
 have hS3:Sh K H3 (jY T) (.ref va):=hP2.tab hS2 sx3
 have hO3:=sx3 _ _ nO.1 hO
 have s4:=aJ hZ (.lst [.int ((2:Int)*(r:Int)), .int 0, .int (mo:Int)])
 have nZ:=hP3.ne hZ
 have hP4:=hP3.x s4
 have hS4:=hS3.same s4
 have hO4:=s4 _ _ hO3
 have hZ4:(upd H3 Z (.lst [.int ((2:Int)*(r:Int)), .int 0, .int (mo:Int)])) Z=some (.lst [.int ((2:Int)*(r:Int)), .int 0, .int (mo:Int)]):=aF
 generalize upd H3 Z (.lst [.int ((2:Int)*(r:Int)), .int 0, .int (mo:Int)])=H4 at *
 refine ⟨Z,rfl, .inl ⟨⟨_, .of hZ4⟩,?_⟩⟩
 refine iE (K:=K) (a:=Z) (xs:=[.int ((2:Int)*(r:Int)), .int 0, .int (mo:Int)]) (fun i σ' H'=>Pen H' p l ns∧SameX p H4 H'∧∃ y2 y6 y7 y8 y9 y10 y11,σ'=[some (.ref a),some (.ref p),y2,some (.ref va),some (.ref O),some (.int (mo:Int)),y6,y7,y8,y9,y10,y11]) ⟨hP4,SameX.refl _ _,_,_,_,_,_,_,_,rfl⟩ (fun i σ' H' _ ⟨_,sx,_⟩ => .of (sx _ _ nZ.1 hZ4)) (fun i x σ' H' hx ⟨hP5,sx5,y2,y6,y7,y8,y9,y10,y11,es⟩=>?_) fun σ' H' ⟨hP5,sx5,y2,y6,y7,y8,y9,y10,y11,es⟩=>?_
 ·subst es
  obtain ⟨k,rfl,hk⟩:∃ k:Nat,x = .int ((2*k:Nat):Int)∧2*k≤n:=by
   match i,hx with
   | 0,hx=>cases hx;exact ⟨r,by congr 1,by omega⟩
   | 1,hx=>cases hx;exact ⟨0,rfl,by omega⟩
   | 2,hx=>cases hx;exact ⟨h,by rw [hmo],by omega⟩
   | i+3,hx=>cases hx
  have hO5:=sx5 _ _ nO.1 hO4
  refine ⟨_,rfl,_,rfl,_,rfl, .inl ⟨O,_,rfl, .of hO5,fun p1 hp1=>?_⟩⟩
  rw [aCz _ _ (by omega)]
  have s6:=aJ hp1 (.lst ((ms.take (2*k)).map bY))
  refine .inl ⟨p1,(ms.take (2*k)).map fun p:Nat=>(p:Int),rfl, .inl (.of (by rw [aF,gG])),by rw [List.length_map,List.length_take];omega,fun zs pz srt l1 hl1=>?_⟩
  obtain ⟨so,rfl,pso⟩:=qV pz
  have s7:=aJ hl1 (.lst ((so.map fun p:Nat=>(p:Int)).map V.int))
  refine ⟨l1,_,rfl, .inl ⟨.of aF,fun tb htb=>?_⟩⟩
  have s8:=aJ htb (.tup ((so.map fun p:Nat=>(p:Int)).map V.int))
  have s68:=(s6.trans s7).trans s8
  have ndo:so.Nodup:=pso.nodup_iff.mpr (ndm.sublist (List.take_sublist ..))
  have inc:=aAN srt ndo
  have lt:∀ y∈so,y<n:=fun y hy=>List.mem_range.mp (pm0.mem_iff.mp (List.mem_of_mem_take (pso.mem_iff.mp hy)))
  have hlen:so.length=2*k:=by rw [pso.length_eq,List.length_take];omega
  have htb8:SqT K (upd (upd (upd H' p1 (.lst ((ms.take (2*k)).map bY))) l1 (.lst ((so.map fun p:Nat=>(p:Int)).map V.int))) tb (.tup ((so.map fun p:Nat=>(p:Int)).map V.int))) tb (so.map bY) := .of (by rw [aF,gG])
  have hP8:=hP5.x s68
  have hS8:Sh K _ (jY T) (.ref va):=(hP4.tab hS4 sx5).same s68
  have sx8:=sx5.trans s68.x
  show aR _ _ _ ([some (.ref a),some (.ref p),y2,some (.ref va),some (.ref O),some (.int (mo:Int)),_,some (.ref tb),y8,y9,y10,y11]:St) _
  generalize upd (upd (upd H' p1 (.lst ((ms.take (2*k)).map bY))) l1 (.lst ((so.map fun p:Nat=>(p:Int)).map V.int))) tb (.tup ((so.map fun p:Nat=>(p:Int)).map V.int))=H8 at *
  refine ⟨2,rfl,by decide,by decide,?_⟩
  refine cG (lo:=0) (n:=2) (fun i σ' H'=>Pen H' p l ns∧SameX p H8 H'∧∃ y6 z8 z9 z10,σ'=[some (.ref a),some (.ref p),y2,some (.ref va),some (.ref O),some (.int (mo:Int)),y6,some (.ref tb),z8,z9,z10,y11]) ⟨hP8,SameX.refl _ _,_,_,_,_,rfl⟩ (fun i3 σ3 H9 hi3 ⟨hP9,sx9,y6,z8,z9,z10,es⟩=>?_) fun σ3 H9 ⟨hP9,sx9,y6,z8,z9,z10,es⟩=>?_
  ·subst es
   have hS9:=hP8.tab hS8 sx9
   have htb9:=hP8.sq htb8 sx9
   refine ⟨_,rfl,_,rfl, .ref va, .ref tb,T,n,rfl,hS9,qT,n1,n8, .inl ⟨tb,so,k,rfl,sT,htb9,inc,lt,hlen,fun tp c ys L Ha sa fc htp hc hr pl=>?_⟩⟩
   have nc:=hP9.ne fc
   refine ⟨_,rfl,_,rfl,_,rfl, .ref va,tb,tp,c,T,n,so,k,L,ys,rfl,hS9.same sa,qT,n8,sa.tup htb9,inc,lt,hlen,htp,hc,hr,pl,fun Hb sb=>⟨_,rfl,dD rfl ?_⟩⟩
   have hz:ys.length≤8:=by rw [hr.1];unfold prN;rw [List.length_map];have:=pl.len;omega
   refine ⟨_,rfl,ixT (j:=1) (.of (sb _ _ htp)) rfl ⟨.inl ⟨rfl,_, .of (sb _ _ hc)⟩,c,ys,_,rfl,rfl,sb _ _ hc,Nat.lt_of_le_of_lt hz (by decide),?_⟩⟩
   have sab:=sa.trans sb
   have sc:SameX c Hb (upd Hb c (.lst (ys++[V.int 0]))):=fun d o hd e=>by rw [aP hd];exact e
   have hPc:Pen (upd Hb c (.lst (ys++[V.int 0]))) p l ns:=(hP9.x sab).off nc.1 nc.2 sc
   have sx9c:SameX p H9 (upd Hb c (.lst (ys++[V.int 0]))):=fun d o hd e=>sc _ _ (aQ e fc) (sab _ _ e)
   have hSc:=hP9.tab hS9 sx9c
   have htbc:=hP9.sq htb9 sx9c
   obtain ⟨va3,rs3,e3,ha3,hrl3,_⟩:=id hSc.tab
   cases e3
   have hrl3:rs3.length=n:=hrl3.trans qT.len
   generalize upd Hb c (.lst (ys++[V.int 0]))=Hc at *
   refine ⟨_,rfl,_,rfl,va,rs3,rfl, .inr ha3,_,rfl,va,rs3,rfl, .inr ha3,p,l,ns,n,n,by rw [hrl3];rfl,hPc,n1,Nat.le_refl _,n8,fun T2 n2 v2 Hd lo2 hi2 qT2 bT2 sT2 hSd hPd sxd=>?_⟩
   have en:n2=n:=by omega
   subst en
   have htbd:=hPc.sq htbc sxd
   refine ⟨_,rfl,_,rfl,_,rfl,_,rfl,v2, .ref tb,T2,n2,rfl,hSd,qT2,n1,n8, .inl ⟨tb,so,k,rfl,sT2,htbd,inc,lt,hlen,fun tp2 c2 ys2 L2 He se fc2 htp2 hc2 hr2 pl2=>?_⟩⟩
   refine ⟨v2,tb,tp2,c2,T2,n2,so,k,L2,ys2,rfl,hSd.same se,qT2,n8,se.tup htbd,inc,lt,hlen,htp2,hc2,hr2,pl2,fun Hf sf=>⟨_,rfl,dD rfl ?_⟩⟩
   exact ⟨hPd.x (se.trans sf),((sx9.trans sx9c).trans sxd).trans (se.trans sf).x,_,_,_,_,rfl⟩
  ·subst es
   have hS9:=hP8.tab hS8 sx9
   have htb9:=hP8.sq htb8 sx9
   obtain ⟨va3,rs3,e3,ha3,hrl3,_⟩:=id hS9.tab
   cases e3
   have hrl3:rs3.length=n:=hrl3.trans qT.len
   refine ⟨_,rfl,va,rs3,rfl, .inr ha3,_,_,rfl,rfl,_,rfl,?_⟩
   by_cases c:1<n
   ·refine iA (decide_eq_true (show (1:Int)<(rs3.length:Int) by omega)) ?_
    refine ⟨_,rfl,_,rfl,p,l,ns, .ref va,T,n,rfl,hP9,hS9,qT,sT,by omega,n8,fun T' v' Ha qT' nev hSa hPa sxa=>?_⟩
    refine ⟨_,rfl,_,rfl,show 3≤sizeLine by decide,fun tq htq=>?_⟩
    have sq:=aJ htq (.tup [.ref C1,v', .ref tb])
    refine ⟨tq,C1,aAy K CN,[v', .ref tb],rfl, .of aF,⟨rfl,rfl⟩, .inr rfl,fun Q' E' hE=>⟨v', .ref tb,T',n,rfl,hSa.same sq,qT',n1,n8, .inr ⟨nev,hE⟩⟩,fun Hb sb=>?_⟩
    refine ⟨.str "even", .str "even",Nat.zero_le _,rfl,rfl,_,rfl,dD (by simp [eqD]) ?_⟩
    exact ⟨hPa.x (sq.trans sb),((sx8.trans sx9).trans sxa).trans (sq.trans sb).x,_,_,_,_,_,_,_,rfl⟩
   ·refine dD (decide_eq_false (show ¬ (1:Int)<(rs3.length:Int) by omega)) ?_
    exact ⟨hP9,sx8.trans sx9,_,_,_,_,_,_,_,rfl⟩
 ·subst es
  exact ⟨hP5,_,_,_,_,_,_,_,_,_,_,rfl⟩
end
end K45
namespace K45
open PySem L2
section
variable {K:PySem.W.Frag}{C_NotEven C_pairing:Addr}
theorem tK:∀ vs H Q E,(aCg K) vs H Q E→vs.length=1:=by
 intro vs H Q E h
 obtain ⟨_,_,_,e,_⟩:=h
 rw [e]
 rfl
theorem jW:∀ vs H Q E,(aBL K C_NotEven) vs H Q E→vs.length=1:=by
 intro vs H Q E h
 obtain ⟨_,_,_,e,_⟩:=h
 rw [e]
 rfl
theorem tP:∀ vs H Q E,(aAy K C_NotEven) vs H Q E→vs.length=2:=by
 intro vs H Q E h
 obtain ⟨_,_,_,_,e,_⟩:=h
 rw [e]
 rfl
theorem mD:∀ vs H Q E,vA vs H Q E→vs.length=2:=by
 intro vs H Q E h
 obtain ⟨_,_,e,_⟩:=h
 rw [e]
 rfl
theorem oI:∀ vs H Q E,(rR K) vs H Q E→vs.length=1:=by
 intro vs H Q E h
 obtain ⟨_,_,e,_⟩:=h
 rw [e]
 rfl
theorem oH:∀ vs H Q E,eC vs H Q E→vs.length=2:=by
 intro vs H Q E h
 obtain ⟨_,_,_,_,e,_⟩:=h
 rw [e]
 rfl
theorem lV:∀ vs H Q E,(spW K) vs H Q E→vs.length=1:=by
 intro vs H Q E h
 obtain ⟨_,e,_⟩:=h
 rw [e]
 rfl
theorem lR:∀ vs H Q E,(dR K) vs H Q E→vs.length=1:=by
 intro vs H Q E h
 obtain ⟨_,e,_⟩:=h
 rw [e]
 rfl
theorem mI:∀ vs H Q E,(cS K) vs H Q E→vs.length=1:=by
 intro vs H Q E h
 obtain ⟨_,_,_,_,e,_⟩:=h
 rw [e]
 rfl
theorem nU:∀ vs H Q E,(sH K) vs H Q E→vs.length=3:=by
 intro vs H Q E h
 obtain ⟨_,_,_,_,_,e,_⟩:=h
 rw [e]
 rfl
theorem kQ:∀ vs H Q E,(aBT K) vs H Q E→vs.length=2:=by
 intro vs H Q E h
 obtain ⟨_,_,_,_,_,_,e,_⟩:=h
 rw [e]
 rfl
theorem kC:∀ vs H Q E,(yN K (foK K C_NotEven C_pairing) C_NotEven) vs H Q E→vs.length=1:=by
 intro vs H Q E h
 obtain ⟨_,_,_,_,e,_⟩:=h
 rw [e]
 rfl
theorem kL:∀ vs H Q E,(xO K) vs H Q E→vs.length=2:=by
 intro vs H Q E h
 obtain ⟨_,_,_,_,e,_⟩:=h
 rw [e]
 rfl
theorem pB:∀ vs H Q E,(aBI K) vs H Q E→vs.length=2:=by
 intro vs H Q E h
 obtain ⟨_,_,_,_,_,_,e,_⟩:=h
 rw [e]
 rfl
theorem lZ:∀ vs H Q E,(wN K) vs H Q E→vs.length=2:=by
 intro vs H Q E h
 obtain ⟨_,_,_,_,_,e,_⟩:=h
 rw [e]
 rfl
theorem hV:∀ vs H Q E,(aBO K) vs H Q E→vs.length=3:=by
 intro vs H Q E h
 obtain ⟨_,_,_,_,_,_,_,_,e,_⟩:=h
 rw [e]
 rfl
theorem kR:∀ vs H Q E,(aBP K) vs H Q E→vs.length=3:=by
 intro vs H Q E h
 obtain ⟨_,_,_,_,_,_,_,_,_,_,e,_⟩:=h
 rw [e]
 rfl
theorem kA (m:Nat):∀ vs H Q E,aAw K (m+1) vs H Q E→vs.length=2:=by
 intro vs H Q E h
 obtain ⟨_,_,_,_,_,_,e,_⟩:=h
 rw [e]
 rfl
theorem gN (m:Nat):∀ vs H Q E,aAv K (m+1) vs H Q E→vs.length=2:=by
 intro vs H Q E h
 obtain ⟨_,_,_,_,_,_,e,_⟩:=h
 rw [e]
 rfl
theorem aAQ:∀ vs H Q E,wG K vs H Q E→vs.length=1:=fun vs H Q E ⟨a,ns,e,_⟩=>by rw [e];rfl
end
theorem zE {us:List Value}(h:us.length=1):∃ a0,us=[a0]:=List.length_eq_one_iff.mp h
theorem wM {us:List Value}(h:us.length=2):∃ a0 a1,us=[a0,a1]:=by
 cases us with
 | nil=>cases h
 | cons a0 us=>
 cases us with
 | nil=>cases h
 | cons a1 us=>
 cases us with
 | nil=>exact ⟨a0,a1,rfl⟩
 | cons _ _=>simp at h
theorem aCu {us:List Value}(h:us.length=3):∃ a0 a1 a2,us=[a0,a1,a2]:=by
 cases us with
 | nil=>cases h
 | cons a0 us=>
 cases us with
 | nil=>cases h
 | cons a1 us=>
 cases us with
 | nil=>cases h
 | cons a2 us=>
 cases us with
 | nil=>exact ⟨a0,a1,a2,rfl⟩
 | cons _ _=>simp at h
theorem all_mk {l:PySem.W.OpenLaw}{w:World}{K:PySem.W.Frag}{h:Heap}{mg:Str→Option Value}{fa:Addr}(X:K.In h)(G:h.Ns mainGlobals mg)(hfa:mg "law" = some (.ref fa))
  {f0:Addr} {od0 an0:Option Addr} {sl0:Array (Option Value)} {oc0 kV0 dc0 pm0 cd0 ct0:Value} (a0:PySem.W.nsIn K mainGlobals "is_even" = some (some (.ref f0))) (l0:K.lookup f0=some ⟨oc0,od0, .func (PySem.W.fnOf "is_even" "is_even" (bN (top 11)) (bK (top 11)) (aK (top 11)) .none kV0 dc0 pm0 an0 cd0 ct0),sl0⟩) (c0:PySem.W.codeIn K cd0 "is_even" = true) (k0:PySem.W.keepIn K (.ref f0)=true)
  {f1:Addr} {od1 an1:Option Addr} {sl1:Array (Option Value)} {oc1 kV1 dc1 pm1 cd1 ct1:Value} (a1:PySem.W.nsIn K mainGlobals "refuse_uneven" = some (some (.ref f1))) (l1:K.lookup f1=some ⟨oc1,od1, .func (PySem.W.fnOf "refuse_uneven" "refuse_uneven" (bN (top 13)) (bK (top 13)) (aK (top 13)) .none kV1 dc1 pm1 an1 cd1 ct1),sl1⟩) (c1:PySem.W.codeIn K cd1 "refuse_uneven" = true) (k1:PySem.W.keepIn K (.ref f1)=true)
  {f2:Addr} {od2 an2:Option Addr} {sl2:Array (Option Value)} {oc2 kV2 dc2 pm2 cd2 ct2:Value} (a2:PySem.W.nsIn K mainGlobals "pairing" = some (some (.ref f2))) (l2:K.lookup f2=some ⟨oc2,od2, .func (PySem.W.fnOf "pairing" "pairing" (bN (top 14)) (bK (top 14)) (aK (top 14)) .none kV2 dc2 pm2 an2 cd2 ct2),sl2⟩) (c2:PySem.W.codeIn K cd2 "pairing" = true) (k2:PySem.W.keepIn K (.ref f2)=true)
  {f3:Addr} {od3 an3:Option Addr} {sl3:Array (Option Value)} {oc3 kV3 dc3 pm3 cd3 ct3:Value} (a3:PySem.W.nsIn K mainGlobals "least_pairing" = some (some (.ref f3))) (l3:K.lookup f3=some ⟨oc3,od3, .func (PySem.W.fnOf "least_pairing" "least_pairing" (bN (top 15)) (bK (top 15)) (aK (top 15)) .none kV3 dc3 pm3 an3 cd3 ct3),sl3⟩) (c3:PySem.W.codeIn K cd3 "least_pairing" = true) (k3:PySem.W.keepIn K (.ref f3)=true)
  {f4:Addr} {od4 an4:Option Addr} {sl4:Array (Option Value)} {oc4 kV4 dc4 pm4 cd4 ct4:Value} (a4:PySem.W.nsIn K mainGlobals "_law_cmixed" = some (some (.ref f4))) (l4:K.lookup f4=some ⟨oc4,od4, .func (PySem.W.fnOf "_law_cmixed" "_law_cmixed" (bN (top 17)) (bK (top 17)) (aK (top 17)) .none kV4 dc4 pm4 an4 cd4 ct4),sl4⟩) (c4:PySem.W.codeIn K cd4 "_law_cmixed" = true) (k4:PySem.W.keepIn K (.ref f4)=true)
  {f5:Addr} {od5 an5:Option Addr} {sl5:Array (Option Value)} {oc5 kV5 dc5 pm5 cd5 ct5:Value} (a5:PySem.W.nsIn K mainGlobals "_law_copen" = some (some (.ref f5))) (l5:K.lookup f5=some ⟨oc5,od5, .func (PySem.W.fnOf "_law_copen" "_law_copen" (bN (top 18)) (bK (top 18)) (aK (top 18)) .none kV5 dc5 pm5 an5 cd5 ct5),sl5⟩) (c5:PySem.W.codeIn K cd5 "_law_copen" = true) (k5:PySem.W.keepIn K (.ref f5)=true)
  {f6:Addr} {od6 an6:Option Addr} {sl6:Array (Option Value)} {oc6 kV6 dc6 pm6 cd6 ct6:Value} (a6:PySem.W.nsIn K mainGlobals "_law_cdraw" = some (some (.ref f6))) (l6:K.lookup f6=some ⟨oc6,od6, .func (PySem.W.fnOf "_law_cdraw" "_law_cdraw" (bN (top 19)) (bK (top 19)) (aK (top 19)) .none kV6 dc6 pm6 an6 cd6 ct6),sl6⟩) (c6:PySem.W.codeIn K cd6 "_law_cdraw" = true) (k6:PySem.W.keepIn K (.ref f6)=true)
  {f7:Addr} {od7 an7:Option Addr} {sl7:Array (Option Value)} {oc7 kV7 dc7 pm7 cd7 ct7:Value} (a7:PySem.W.nsIn K mainGlobals "_law_cwhole" = some (some (.ref f7))) (l7:K.lookup f7=some ⟨oc7,od7, .func (PySem.W.fnOf "_law_cwhole" "_law_cwhole" (bN (top 20)) (bK (top 20)) (aK (top 20)) .none kV7 dc7 pm7 an7 cd7 ct7),sl7⟩) (c7:PySem.W.codeIn K cd7 "_law_cwhole" = true) (k7:PySem.W.keepIn K (.ref f7)=true)
  {f8:Addr} {od8 an8:Option Addr} {sl8:Array (Option Value)} {oc8 kV8 dc8 pm8 cd8 ct8:Value} (a8:PySem.W.nsIn K mainGlobals "_law_cpairs" = some (some (.ref f8))) (l8:K.lookup f8=some ⟨oc8,od8, .func (PySem.W.fnOf "_law_cpairs" "_law_cpairs" (bN (top 21)) (bK (top 21)) (aK (top 21)) .none kV8 dc8 pm8 an8 cd8 ct8),sl8⟩) (c8:PySem.W.codeIn K cd8 "_law_cpairs" = true) (k8:PySem.W.keepIn K (.ref f8)=true)
  {f9:Addr} {od9 an9:Option Addr} {sl9:Array (Option Value)} {oc9 kV9 dc9 pm9 cd9 ct9:Value} (a9:PySem.W.nsIn K mainGlobals "_law_cshort" = some (some (.ref f9))) (l9:K.lookup f9=some ⟨oc9,od9, .func (PySem.W.fnOf "_law_cshort" "_law_cshort" (bN (top 22)) (bK (top 22)) (aK (top 22)) .none kV9 dc9 pm9 an9 cd9 ct9),sl9⟩) (c9:PySem.W.codeIn K cd9 "_law_cshort" = true) (k9:PySem.W.keepIn K (.ref f9)=true)
  {f10:Addr} {od10 an10:Option Addr} {sl10:Array (Option Value)} {oc10 kV10 dc10 pm10 cd10 ct10:Value} (a10:PySem.W.nsIn K mainGlobals "_law_ceven" = some (some (.ref f10))) (l10:K.lookup f10=some ⟨oc10,od10, .func (PySem.W.fnOf "_law_ceven" "_law_ceven" (bN (top 23)) (bK (top 23)) (aK (top 23)) .none kV10 dc10 pm10 an10 cd10 ct10),sl10⟩) (c10:PySem.W.codeIn K cd10 "_law_ceven" = true) (k10:PySem.W.keepIn K (.ref f10)=true)
  {f11:Addr} {od11 an11:Option Addr} {sl11:Array (Option Value)} {oc11 kV11 dc11 pm11 cd11 ct11:Value} (a11:PySem.W.nsIn K mainGlobals "_law_cuneven" = some (some (.ref f11))) (l11:K.lookup f11=some ⟨oc11,od11, .func (PySem.W.fnOf "_law_cuneven" "_law_cuneven" (bN (top 24)) (bK (top 24)) (aK (top 24)) .none kV11 dc11 pm11 an11 cd11 ct11),sl11⟩) (c11:PySem.W.codeIn K cd11 "_law_cuneven" = true) (k11:PySem.W.keepIn K (.ref f11)=true)
  {f12:Addr} {od12 an12:Option Addr} {sl12:Array (Option Value)} {oc12 kV12 dc12 pm12 cd12 ct12:Value} (a12:PySem.W.nsIn K mainGlobals "_law_crefused" = some (some (.ref f12))) (l12:K.lookup f12=some ⟨oc12,od12, .func (PySem.W.fnOf "_law_crefused" "_law_crefused" (bN (top 25)) (bK (top 25)) (aK (top 25)) .none kV12 dc12 pm12 an12 cd12 ct12),sl12⟩) (c12:PySem.W.codeIn K cd12 "_law_crefused" = true) (k12:PySem.W.keepIn K (.ref f12)=true)
  {f13:Addr} {od13 an13:Option Addr} {sl13:Array (Option Value)} {oc13 kV13 dc13 pm13 cd13 ct13:Value} (a13:PySem.W.nsIn K mainGlobals "_law_cis_tie" = some (some (.ref f13))) (l13:K.lookup f13=some ⟨oc13,od13, .func (PySem.W.fnOf "_law_cis_tie" "_law_cis_tie" (bN (top 26)) (bK (top 26)) (aK (top 26)) .none kV13 dc13 pm13 an13 cd13 ct13),sl13⟩) (c13:PySem.W.codeIn K cd13 "_law_cis_tie" = true) (k13:PySem.W.keepIn K (.ref f13)=true)
  {f14:Addr} {od14 an14:Option Addr} {sl14:Array (Option Value)} {oc14 kV14 dc14 pm14 cd14 ct14:Value} (a14:PySem.W.nsIn K mainGlobals "_law_csum" = some (some (.ref f14))) (l14:K.lookup f14=some ⟨oc14,od14, .func (PySem.W.fnOf "_law_csum" "_law_csum" (bN (top 27)) (bK (top 27)) (aK (top 27)) .none kV14 dc14 pm14 an14 cd14 ct14),sl14⟩) (c14:PySem.W.codeIn K cd14 "_law_csum" = true) (k14:PySem.W.keepIn K (.ref f14)=true)
  {f15:Addr} {od15 an15:Option Addr} {sl15:Array (Option Value)} {oc15 kV15 dc15 pm15 cd15 ct15:Value} (a15:PySem.W.nsIn K mainGlobals "_law_corder" = some (some (.ref f15))) (l15:K.lookup f15=some ⟨oc15,od15, .func (PySem.W.fnOf "_law_corder" "_law_corder" (bN (top 28)) (bK (top 28)) (aK (top 28)) .none kV15 dc15 pm15 an15 cd15 ct15),sl15⟩) (c15:PySem.W.codeIn K cd15 "_law_corder" = true) (k15:PySem.W.keepIn K (.ref f15)=true)
  {f16:Addr} {od16 an16:Option Addr} {sl16:Array (Option Value)} {oc16 kV16 dc16 pm16 cd16 ct16:Value} (a16:PySem.W.nsIn K mainGlobals "_law_cpairing_sum" = some (some (.ref f16))) (l16:K.lookup f16=some ⟨oc16,od16, .func (PySem.W.fnOf "_law_cpairing_sum" "_law_cpairing_sum" (bN (top 29)) (bK (top 29)) (aK (top 29)) .none kV16 dc16 pm16 an16 cd16 ct16),sl16⟩) (c16:PySem.W.codeIn K cd16 "_law_cpairing_sum" = true) (k16:PySem.W.keepIn K (.ref f16)=true)
  {f17:Addr} {od17 an17:Option Addr} {sl17:Array (Option Value)} {oc17 kV17 dc17 pm17 cd17 ct17:Value} (a17:PySem.W.nsIn K mainGlobals "_law_cis_pairing" = some (some (.ref f17))) (l17:K.lookup f17=some ⟨oc17,od17, .func (PySem.W.fnOf "_law_cis_pairing" "_law_cis_pairing" (bN (top 30)) (bK (top 30)) (aK (top 30)) .none kV17 dc17 pm17 an17 cd17 ct17),sl17⟩) (c17:PySem.W.codeIn K cd17 "_law_cis_pairing" = true) (k17:PySem.W.keepIn K (.ref f17)=true)
  {f18:Addr} {od18 an18:Option Addr} {sl18:Array (Option Value)} {oc18 kV18 dc18 pm18 cd18 ct18:Value} (a18:PySem.W.nsIn K mainGlobals "_law_c_right" = some (some (.ref f18))) (l18:K.lookup f18=some ⟨oc18,od18, .func (PySem.W.fnOf "_law_c_right" "_law_c_right" (bN (top 31)) (bK (top 31)) (aK (top 31)) .none kV18 dc18 pm18 an18 cd18 ct18),sl18⟩) (c18:PySem.W.codeIn K cd18 "_law_c_right" = true) (k18:PySem.W.keepIn K (.ref f18)=true)
  {f19:Addr} {od19 an19:Option Addr} {sl19:Array (Option Value)} {oc19 kV19 dc19 pm19 cd19 ct19:Value} (a19:PySem.W.nsIn K mainGlobals "law" = some (some (.ref f19))) (l19:K.lookup f19=some ⟨oc19,od19, .func (PySem.W.fnOf "law" "law" (bN (top 32)) (bK (top 32)) (aK (top 32)) .none kV19 dc19 pm19 an19 cd19 ct19),sl19⟩) (c19:PySem.W.codeIn K cd19 "law" = true) (k19:PySem.W.keepIn K (.ref f19)=true)
  (z_len:PySem.W.nsIn K mainGlobals "len" = some none)
  (z_all:PySem.W.nsIn K mainGlobals "all" = some none)
  (z_min:PySem.W.nsIn K mainGlobals "min" = some none)
  (z_max:PySem.W.nsIn K mainGlobals "max" = some none)
  (z_sum:PySem.W.nsIn K mainGlobals "sum" = some none)
  (z_isinstance:PySem.W.nsIn K mainGlobals "isinstance" = some none)
  (z_sorted:PySem.W.nsIn K mainGlobals "sorted" = some none)
  (z_tuple:PySem.W.nsIn K mainGlobals "tuple" = some none)
  (z_list:PySem.W.nsIn K mainGlobals "list" = some none)
  (z_range:PySem.W.nsIn K mainGlobals "range" = some none)
  (z_int:PySem.W.nsIn K mainGlobals "int" = some none)
  (z_bool:PySem.W.nsIn K mainGlobals "bool" = some none)
  (z_zip:PySem.W.nsIn K mainGlobals "zip" = some none)
  (z_repr:PySem.W.nsIn K mainGlobals "repr" = some none)
  (z_enumerate:PySem.W.nsIn K mainGlobals "enumerate" = some none)
  (z_reversed:PySem.W.nsIn K mainGlobals "reversed" = some none)
  (z_str:PySem.W.nsIn K mainGlobals "str" = some none)
  (z_set:PySem.W.nsIn K mainGlobals "set" = some none)
  (z_abs:PySem.W.nsIn K mainGlobals "abs" = some none)
  {C_NoBack:Addr} (ac_NoBack:PySem.W.nsIn K mainGlobals "NoBack" = some (some (.ref C_NoBack)))
  {C_NoRow:Addr} (ac_NoRow:PySem.W.nsIn K mainGlobals "NoRow" = some (some (.ref C_NoRow)))
  {C_NoTable:Addr} (ac_NoTable:PySem.W.nsIn K mainGlobals "NoTable" = some (some (.ref C_NoTable)))
  {C_NoText:Addr} (ac_NoText:PySem.W.nsIn K mainGlobals "NoText" = some (some (.ref C_NoText)))
  {C_NotEven:Addr} (ac_NotEven:PySem.W.nsIn K mainGlobals "NotEven" = some (some (.ref C_NotEven)))
  {C_NotStraight:Addr} (ac_NotStraight:PySem.W.nsIn K mainGlobals "NotStraight" = some (some (.ref C_NotStraight)))
  {C_RoundError:Addr} (ac_RoundError:PySem.W.nsIn K mainGlobals "RoundError" = some (some (.ref C_RoundError)))
  {C_TooFew:Addr} (ac_TooFew:PySem.W.nsIn K mainGlobals "TooFew" = some (some (.ref C_TooFew)))
  {C_TooMany:Addr} (ac_TooMany:PySem.W.nsIn K mainGlobals "TooMany" = some (some (.ref C_TooMany)))
  {C_pairing:Addr} (ac_pairing:PySem.W.nsIn K mainGlobals "pairing" = some (some (.ref C_pairing)))
  (XC_NotEven:PySem.W.excIn K C_NotEven aBF "ValueError.__new__" = true)
  (z_ValueError:PySem.W.nsIn K mainGlobals "ValueError" = some none)
  (xE_ga:PySem.W.findIn K (.ref C_NotEven) "__getattribute__" = some (some (.builtin "BaseException.__getattribute__")))
  (xE_gn:PySem.W.findIn K (.ref C_NotEven) "__getattr__" = some none)
  (xE_cl:PySem.W.findIn K (.ref C_NotEven) "__class__" = some (some (.builtin "object.__class__")))
  (xE_gt:PySem.W.specialIn K (.builtin "object.__class__") "__get__" = some (some (.builtin "getset_descriptor.__get__")))
  (xE_tk:PySem.W.takesIn K (.builtin "object.__class__")=some true)
  (xE_ob:PySem.W.mroIn K C_NotEven (.type "object")=some true)
  (xE_bx:PySem.W.subIn K (.ref C_NotEven) (.type "BaseException")=some true)
  (xE_is:(PySem.W.clsIn K C_NotEven).isSome=true)
  (hE:PySem.W.exmOne K (.ref C_NotEven) (.ref C_RoundError)=some true)
  (oE:PySem.W.kitAny K (.ref C_NotEven) [.ref C_NoBack, .ref C_NoRow, .ref C_NoTable, .ref C_NoText]=some false)
  (vE:PySem.W.kitOne K (.ref C_NotEven) (.type "ValueError")=some true)
  (eE:PySem.W.kitOne K (.ref C_NotEven) (.ref C_NotEven)=some true)
  (sE:PySem.W.kitOne K (.ref C_NotEven) (.ref C_NotStraight)=some false)
  (fE:PySem.W.kitOne K (.ref C_NotEven) (.ref C_TooFew)=some false)
  (mE:PySem.W.kitOne K (.ref C_NotEven) (.ref C_TooMany)=some false) :
  ∃ fd:FuncData,(∀ (s:Shared) (v:Value),BindsTo s fd ⟨[v],[]⟩ [("script",v)])∧∀ base:Heap,K.In base→base.Ns mainGlobals mg→FnOk l.prog w K mg base CX0 10 fa fd ["script"] (wG K):=by
 have e:=hfa.symm.trans (PySem.W.mg_of X G a19)
 cases e
 have B:lQ mg:=⟨⟨⟨⟨PySem.W.mg_none_of X G z_len,PySem.W.mg_none_of X G z_all,PySem.W.mg_none_of X G z_min,PySem.W.mg_none_of X G z_max,PySem.W.mg_none_of X G z_sum,PySem.W.mg_none_of X G z_isinstance,PySem.W.mg_none_of X G z_sorted,PySem.W.mg_none_of X G z_tuple,PySem.W.mg_none_of X G z_list,PySem.W.mg_none_of X G z_range,PySem.W.mg_none_of X G z_int,PySem.W.mg_none_of X G z_bool⟩,PySem.W.mg_none_of X G z_zip,PySem.W.mg_none_of X G z_repr,PySem.W.mg_none_of X G z_enumerate,PySem.W.mg_none_of X G z_reversed,PySem.W.mg_none_of X G z_str⟩,PySem.W.mg_none_of X G z_set⟩,PySem.W.mg_none_of X G z_abs⟩
 have GC_NoBack:=PySem.W.mg_of X G ac_NoBack
 have GC_NoRow:=PySem.W.mg_of X G ac_NoRow
 have GC_NoTable:=PySem.W.mg_of X G ac_NoTable
 have GC_NoText:=PySem.W.mg_of X G ac_NoText
 have GC_NotEven:=PySem.W.mg_of X G ac_NotEven
 have GC_NotStraight:=PySem.W.mg_of X G ac_NotStraight
 have GC_RoundError:=PySem.W.mg_of X G ac_RoundError
 have GC_TooFew:=PySem.W.mg_of X G ac_TooFew
 have GC_TooMany:=PySem.W.mg_of X G ac_TooMany
 have GC_pairing:=PySem.W.mg_of X G ac_pairing
 have GV:=PySem.W.mg_none_of X G z_ValueError
 have kx:Kx K C_NoBack C_NoRow C_NoTable C_NoText C_NotEven C_NotStraight C_RoundError C_TooFew C_TooMany:=⟨⟨xE_ga,xE_gn,xE_cl,xE_gt,xE_tk,xE_ob,xE_bx,xE_is⟩,hE,oE,vE,eE,sE,fE,mE⟩
 have F0:=cR (st:=top 11) l0 c0 k0
 have b0:=F0.binds (ps:=["table"]) fun _ _ _ _ _ _ us hl=>by obtain ⟨_,rfl⟩:=zE hl;rfl
 have F1:=cR (st:=top 13) l1 c1 k1
 have b1:=F1.binds (ps:=["table"]) fun _ _ _ _ _ _ us hl=>by obtain ⟨_,rfl⟩:=zE hl;rfl
 have F2:=cR (st:=top 14) l2 c2 k2
 have b2:=F2.binds (ps:=["table","some"]) fun _ _ _ _ _ _ us hl=>by obtain ⟨_,_,rfl⟩:=wM hl;rfl
 have F3:=cR (st:=top 15) l3 c3 k3
 have b3:=F3.binds (ps:=["table","some"]) fun _ _ _ _ _ _ us hl=>by obtain ⟨_,_,rfl⟩:=wM hl;rfl
 have F4:=cR (st:=top 17) l4 c4 k4
 have b4:=F4.binds (ps:=["cell","at"]) fun _ _ _ _ _ _ us hl=>by obtain ⟨_,_,rfl⟩:=wM hl;rfl
 have F5:=cR (st:=top 18) l5 c5 k5
 have b5:=F5.binds (ps:=["script"]) fun _ _ _ _ _ _ us hl=>by obtain ⟨_,rfl⟩:=zE hl;rfl
 have F6:=cR (st:=top 19) l6 c6 k6
 have b6:=F6.binds (ps:=["feed","many"]) fun _ _ _ _ _ _ us hl=>by obtain ⟨_,_,rfl⟩:=wM hl;rfl
 have F7:=cR (st:=top 20) l7 c7 k7
 have b7:=F7.binds (ps:=["thing"]) fun _ _ _ _ _ _ us hl=>by obtain ⟨_,rfl⟩:=zE hl;rfl
 have F8:=cR (st:=top 21) l8 c8 k8
 have b8:=F8.binds (ps:=["many"]) fun _ _ _ _ _ _ us hl=>by obtain ⟨_,rfl⟩:=zE hl;rfl
 have F9:=cR (st:=top 22) l9 c9 k9
 have b9:=F9.binds (ps:=["rows"]) fun _ _ _ _ _ _ us hl=>by obtain ⟨_,rfl⟩:=zE hl;rfl
 have F10:=cR (st:=top 23) l10 c10 k10
 have b10:=F10.binds (ps:=["feed","least","most"]) fun _ _ _ _ _ _ us hl=>by obtain ⟨_,_,_,rfl⟩:=aCu hl;rfl
 have F11:=cR (st:=top 24) l11 c11 k11
 have b11:=F11.binds (ps:=["feed","table"]) fun _ _ _ _ _ _ us hl=>by obtain ⟨_,_,rfl⟩:=wM hl;rfl
 have F12:=cR (st:=top 25) l12 c12 k12
 have b12:=F12.binds (ps:=["act"]) fun _ _ _ _ _ _ us hl=>by obtain ⟨_,rfl⟩:=zE hl;rfl
 have F13:=cR (st:=top 26) l13 c13 k13
 have b13:=F13.binds (ps:=["many","thing"]) fun _ _ _ _ _ _ us hl=>by obtain ⟨_,_,rfl⟩:=wM hl;rfl
 have F14:=cR (st:=top 27) l14 c14 k14
 have b14:=F14.binds (ps:=["table","ties"]) fun _ _ _ _ _ _ us hl=>by obtain ⟨_,_,rfl⟩:=wM hl;rfl
 have F15:=cR (st:=top 28) l15 c15 k15
 have b15:=F15.binds (ps:=["feed","some"]) fun _ _ _ _ _ _ us hl=>by obtain ⟨_,_,rfl⟩:=wM hl;rfl
 have F16:=cR (st:=top 29) l16 c16 k16
 have b16:=F16.binds (ps:=["table","some"]) fun _ _ _ _ _ _ us hl=>by obtain ⟨_,_,rfl⟩:=wM hl;rfl
 have F17:=cR (st:=top 30) l17 c17 k17
 have b17:=F17.binds (ps:=["many","pairs","some"]) fun _ _ _ _ _ _ us hl=>by obtain ⟨_,_,_,rfl⟩:=aCu hl;rfl
 have F18:=cR (st:=top 31) l18 c18 k18
 have b18:=F18.binds (ps:=["table","some","told"]) fun _ _ _ _ _ _ us hl=>by obtain ⟨_,_,_,rfl⟩:=aCu hl;rfl
 have F19:=cR (st:=top 32) l19 c19 k19
 refine ⟨PySem.W.fnOf "law" "law" (bN (top 32)) (bK (top 32)) (aK (top 32)) .none kV19 dc19 pm19 an19 cd19 ct19,fun s v => .of_eq rfl,fun base _ _=>?_⟩
 have lN:Def l.prog w K mg base "is_even" 1 ["table"] (aCg K):=⟨f0,_,sQ (P:=l.prog) (w:=w) (base:=base) F0 B   tK (aAs),PySem.W.mg_of X G a0,k0,b0⟩
 have fB:Def l.prog w K mg base "_law_cmixed" 1 ["cell","at"] (vA):=⟨f4,_,lX (P:=l.prog) (w:=w) (base:=base) F4 B   mD (aBA),PySem.W.mg_of X G a4,k4,b4⟩
 have gC:Def l.prog w K mg base "_law_copen" 1 ["script"] (rR K):=⟨f5,_,nD (P:=l.prog) (w:=w) (base:=base) F5 B   oI (zP),PySem.W.mg_of X G a5,k5,b5⟩
 have cE:Def l.prog w K mg base "_law_cwhole" 1 ["thing"] (spW K):=⟨f7,_,mB (P:=l.prog) (w:=w) (base:=base) F7 B   lV (uB),PySem.W.mg_of X G a7,k7,b7⟩
 have fD:Def l.prog w K mg base "_law_cpairs" 1 ["many"] (dR K):=⟨f8,_,mC (P:=l.prog) (w:=w) (base:=base) F8 B   lR (xA),PySem.W.mg_of X G a8,k8,b8⟩
 have fF:Def l.prog w K mg base "_law_cshort" 1 ["rows"] (cS K):=⟨f9,_,lT (P:=l.prog) (w:=w) (base:=base) F9 B   mI (uC),PySem.W.mg_of X G a9,k9,b9⟩
 have iC:Def l.prog w K mg base "_law_csum" 1 ["table","ties"] (aBI K):=⟨f14,_,oX (P:=l.prog) (w:=w) (base:=base) F14 B   pB (aAu),PySem.W.mg_of X G a14,k14,b14⟩
 have dH:DefX l.prog w K mg base "refuse_uneven" 2 ["table"] (aBL K C_NotEven):=⟨f1,_,kB (P:=l.prog) (w:=w) (base:=base) F1 B GC_NotEven XC_NotEven lN jW (aCq),PySem.W.mg_of X G a1,k1,b1⟩
 have aT:Def l.prog w K mg base "_law_cdraw" 2 ["feed","many"] (eC):=⟨f6,_,nS (P:=l.prog) (w:=w) (base:=base) F6 B  fB oH (zR),PySem.W.mg_of X G a6,k6,b6⟩
 have eK:Def l.prog w K mg base "_law_cis_tie" 2 ["many","thing"] (xO K):=⟨f13,_,kU (P:=l.prog) (w:=w) (base:=base) F13 B  cE kL (aAh),PySem.W.mg_of X G a13,k13,b13⟩
 have eH:Def l.prog w K mg base "_law_ceven" 3 ["feed","least","most"] (sH K):=⟨f10,_,oA (P:=l.prog) (w:=w) (base:=base) F10 B  aT fD fF nU (wT),PySem.W.mg_of X G a10,k10,b10⟩
 have eL:Def l.prog w K mg base "_law_cuneven" 3 ["feed","table"] (aBT K):=⟨f11,_,lK (P:=l.prog) (w:=w) (base:=base) F11 B  aT kQ (aCG),PySem.W.mg_of X G a11,k11,b11⟩
 have fG:Def l.prog w K mg base "_law_corder" 3 ["feed","some"] (wN K):=⟨f15,_,lW (P:=l.prog) (w:=w) (base:=base) F15 B  aT lZ (aBl),PySem.W.mg_of X G a15,k15,b15⟩
 have cU:Def l.prog w K mg base "_law_cis_pairing" 3 ["many","pairs","some"] (aBO K):=⟨f17,_,hJ (P:=l.prog) (w:=w) (base:=base) F17 B  eK hV (aBX),PySem.W.mg_of X G a17,k17,b17⟩
 have R_least_pairing:∀ m,Def l.prog w K mg base "least_pairing" (1+m) ["table","some"] (aAw K m):=by
  intro m
  induction m with
  | zero=>exact ⟨f3,_,⟨fun _ _ _ _ h=>False.elim h,fun _ _ _ _ _ _ _ _ _ _ _ _ _ h=>False.elim h⟩,PySem.W.mg_of X G a3,k3,b3⟩
  | succ m ih=>exact ⟨f3,_,jS (P:=l.prog) (w:=w) (base:=base) (k:=1+m) F3 B  (by omega) ih (kA m) (aCc m),PySem.W.mg_of X G a3,k3,b3⟩
 have cJ:Def l.prog w K mg base "least_pairing" 6 ["table","some"] (aAw K 5):=R_least_pairing 5
 have R__law_cpairing_sum:∀ m,Def l.prog w K mg base "_law_cpairing_sum" (1+m) ["table","some"] (aAv K m):=by
  intro m
  induction m with
  | zero=>exact ⟨f16,_,⟨fun _ _ _ _ h=>False.elim h,fun _ _ _ _ _ _ _ _ _ _ _ _ _ h=>False.elim h⟩,PySem.W.mg_of X G a16,k16,b16⟩
  | succ m ih=>exact ⟨f16,_,gK (P:=l.prog) (w:=w) (base:=base) (k:=1+m) F16 B  (by omega) ih (gN m) (aBU m),PySem.W.mg_of X G a16,k16,b16⟩
 have bU:Def l.prog w K mg base "_law_cpairing_sum" 6 ["table","some"] (aAv K 5):=R__law_cpairing_sum 5
 have eR:DefX l.prog w K mg base "pairing" 7 ["table","some"] (aAy K C_NotEven):=⟨f2,_,tL (P:=l.prog) (w:=w) (base:=base) F2 B  cJ dH tP (aCt),PySem.W.mg_of X G a2,k2,b2⟩
 have dC:Def l.prog w K mg base "_law_c_right" 7 ["table","some","told"] (aBP K):=⟨f18,_,lD (P:=l.prog) (w:=w) (base:=base) F18 B  cU bU iC cE kR (aCj),PySem.W.mg_of X G a18,k18,b18⟩
 have HV:∀ f sp,(foK K C_NotEven C_pairing) f sp→DefV l.prog w K mg base 8 f sp:=by
  rintro f sp ⟨rfl,rfl⟩
  exact (eR.v GC_pairing).mono (by decide)
 have eA:Def l.prog w K mg base "_law_crefused" 9 ["act"] (yN K (foK K C_NotEven C_pairing) C_NotEven):=⟨f12,_,jZ (P:=l.prog) (w:=w) (base:=base) F12 B HV GC_NoBack GC_NoRow GC_NoTable GC_NoText GC_NotEven GC_NotStraight GC_RoundError GC_TooFew GC_TooMany GV  kC (aBu kx),PySem.W.mg_of X G a12,k12,b12⟩
 exact aBr (P:=l.prog) (w:=w) (base:=base) F19 B GC_pairing dC aT eH gC fG eA eL eR aAQ (aBd)
theorem walk {l:PySem.W.OpenLaw}{q:Program}{loose:List Str}{XP:(Str→Option Value)→Heap→Prop}{YP:World→Heap→Prop}{d:DefRec}{K:Params→PySem.W.Frag}(hn:l.most=some 63)(hdf:d.params.defaults=[])
  (hY:∀ (w:World) (h:Heap),YP w h→(K w.params).In h)
  (F:∀ (w:World) (mg:Str→Option Value) (fa:Addr) (h:Heap),(K w.params).In h→h.Ns mainGlobals mg→mg d.name=some (.ref fa) →
   ∃ fd:FuncData,(∀ (s:Shared) (u:Value),BindsTo s fd ⟨[u],[]⟩ [("script",u)])∧∀ base:Heap,(K w.params).In base→base.Ns mainGlobals mg→FnOk l.prog w (K w.params) mg base CX0 10 fa fd ["script"] (wG (K w.params))) :
  PySem.W.WalkO q loose XP YP l.row.toRowW d [] (fun f vs=>PySem.call f vs):=
 L2.aAk (n:=63) (k:=10) (x:="script") (CX:=fun _=>CX0) (sp:=fun w=>wG (K w.params)) hn (by decide) hdf ⟨rfl,by decide,by decide,rfl⟩ hY F (fun _ _ a ns hl _ hS=>⟨a,ns,rfl,hS,hl,fun _=>rfl⟩) fun _ _ _ _ _ z=>z
end K45
open PySem PySem.W PyProof.Rows
noncomputable def PySem.W.Fast.tw17155734337185070039 : Nat := 0
noncomputable def PySem.W.Fast.tw7611870504608344351 : Nat := 0
noncomputable def PySem.W.Fast.tw17256742280267897865 : Nat := 0
noncomputable def PySem.W.Fast.tw4288880797358431038 : Nat := 0
set_option maxRecDepth 100000 in
set_option maxHeartbeats 0 in
theorem PySem.Challenge.cw_homeround_k45_pairings_told_holds : PySem.Challenge.rw_homeround_k45_pairings_told.Holds := by
  w_on; o_law; k_head; (case hw => w_witness2)
  k_fill
  refine K45.walk (l := PySem.Challenge.rw_homeround_k45_pairings_told) rfl rfl (fun w h Y => PySem.W.kIn_of Y) ?F
  case F =>
    intro w mg fa h KX G hmg
    refine' K45.all_mk KX G hmg ?a0 ?l0 ?c0 ?k0 ?a1 ?l1 ?c1 ?k1 ?a2 ?l2 ?c2 ?k2 ?a3 ?l3 ?c3 ?k3 ?a4 ?l4 ?c4 ?k4 ?a5 ?l5 ?c5 ?k5 ?a6 ?l6 ?c6 ?k6 ?a7 ?l7 ?c7 ?k7 ?a8 ?l8 ?c8 ?k8 ?a9 ?l9 ?c9 ?k9 ?a10 ?l10 ?c10 ?k10 ?a11 ?l11 ?c11 ?k11 ?a12 ?l12 ?c12 ?k12 ?a13 ?l13 ?c13 ?k13 ?a14 ?l14 ?c14 ?k14 ?a15 ?l15 ?c15 ?k15 ?a16 ?l16 ?c16 ?k16 ?a17 ?l17 ?c17 ?k17 ?a18 ?l18 ?c18 ?k18 ?a19 ?l19 ?c19 ?k19 ?z_len ?z_all ?z_min ?z_max ?z_sum ?z_isinstance ?z_sorted ?z_tuple ?z_list ?z_range ?z_int ?z_bool ?z_zip ?z_repr ?z_enumerate ?z_reversed ?z_str ?z_set ?z_abs ?ac_NoBack ?ac_NoRow ?ac_NoTable ?ac_NoText ?ac_NotEven ?ac_NotStraight ?ac_RoundError ?ac_TooFew ?ac_TooMany ?ac_pairing ?XC_NotEven ?z_ValueError ?xE_ga ?xE_gn ?xE_cl ?xE_gt ?xE_tk ?xE_ob ?xE_bx ?xE_is ?hE ?oE ?vE ?eE ?sE ?fE ?mE
    (case a0 => k_is)
    (case l0 => k_is)
    (case c0 => k_is)
    (case k0 => k_is)
    (case a1 => k_is)
    (case l1 => k_is)
    (case c1 => k_is)
    (case k1 => k_is)
    (case a2 => k_is)
    (case l2 => k_is)
    (case c2 => k_is)
    (case k2 => k_is)
    (case a3 => k_is)
    (case l3 => k_is)
    (case c3 => k_is)
    (case k3 => k_is)
    (case a4 => k_is)
    (case l4 => k_is)
    (case c4 => k_is)
    (case k4 => k_is)
    (case a5 => k_is)
    (case l5 => k_is)
    (case c5 => k_is)
    (case k5 => k_is)
    (case a6 => k_is)
    (case l6 => k_is)
    (case c6 => k_is)
    (case k6 => k_is)
    (case a7 => k_is)
    (case l7 => k_is)
    (case c7 => k_is)
    (case k7 => k_is)
    (case a8 => k_is)
    (case l8 => k_is)
    (case c8 => k_is)
    (case k8 => k_is)
    (case a9 => k_is)
    (case l9 => k_is)
    (case c9 => k_is)
    (case k9 => k_is)
    (case a10 => k_is)
    (case l10 => k_is)
    (case c10 => k_is)
    (case k10 => k_is)
    (case a11 => k_is)
    (case l11 => k_is)
    (case c11 => k_is)
    (case k11 => k_is)
    (case a12 => k_is)
    (case l12 => k_is)
    (case c12 => k_is)
    (case k12 => k_is)
    (case a13 => k_is)
    (case l13 => k_is)
    (case c13 => k_is)
    (case k13 => k_is)
    (case a14 => k_is)
    (case l14 => k_is)
    (case c14 => k_is)
    (case k14 => k_is)
    (case a15 => k_is)
    (case l15 => k_is)
    (case c15 => k_is)
    (case k15 => k_is)
    (case a16 => k_is)
    (case l16 => k_is)
    (case c16 => k_is)
    (case k16 => k_is)
    (case a17 => k_is)
    (case l17 => k_is)
    (case c17 => k_is)
    (case k17 => k_is)
    (case a18 => k_is)
    (case l18 => k_is)
    (case c18 => k_is)
    (case k18 => k_is)
    (case a19 => k_is)
    (case l19 => k_is)
    (case c19 => k_is)
    (case k19 => k_is)
    (case z_len => k_is)
    (case z_all => k_is)
    (case z_min => k_is)
    (case z_max => k_is)
    (case z_sum => k_is)
    (case z_isinstance => k_is)
    (case z_sorted => k_is)
    (case z_tuple => k_is)
    (case z_list => k_is)
    (case z_range => k_is)
    (case z_int => k_is)
    (case z_bool => k_is)
    (case z_zip => k_is)
    (case z_repr => k_is)
    (case z_enumerate => k_is)
    (case z_reversed => k_is)
    (case z_str => k_is)
    (case z_set => k_is)
    (case z_abs => k_is)
    (case ac_NoBack => k_is)
    (case ac_NoRow => k_is)
    (case ac_NoTable => k_is)
    (case ac_NoText => k_is)
    (case ac_NotEven => k_is)
    (case ac_NotStraight => k_is)
    (case ac_RoundError => k_is)
    (case ac_TooFew => k_is)
    (case ac_TooMany => k_is)
    (case ac_pairing => k_is)
    (case XC_NotEven => first | k_is | kernel_rfl)
    (case z_ValueError => k_is)
    (case xE_ga => first | k_is | kernel_rfl)
    (case xE_gn => first | k_is | kernel_rfl)
    (case xE_cl => first | k_is | kernel_rfl)
    (case xE_gt => first | k_is | kernel_rfl)
    (case xE_tk => first | k_is | kernel_rfl)
    (case xE_ob => first | k_is | kernel_rfl)
    (case xE_bx => first | k_is | kernel_rfl)
    (case xE_is => first | k_is | kernel_rfl)
    (case hE => first | k_is | kernel_rfl)
    (case oE => first | k_is | kernel_rfl)
    (case vE => first | k_is | kernel_rfl)
    (case eE => first | k_is | kernel_rfl)
    (case sE => first | k_is | kernel_rfl)
    (case fE => first | k_is | kernel_rfl)
    (case mE => first | k_is | kernel_rfl)
