import PyProof.Rows.All
import Wide.All
import OpenK.AllK
import Wide.FinOn
import Lean
import PyProof.EqAt
import PyProof.EqKinds
import PyProof.TupleCall
import PyProof.Rows.SetFrom
import PyProof.ExcAttrAll.ValueError
import KE.KDictList
import KE.KRevIter
import KE.KPairComp
import PyProof.EqAt
import KE.KSortTup
import PyProof.DictValues
import KE.KIsAll
import KE.KIntText
import PyProof.StrCalls2
import PyProof.CallStr
import PyProof.StrLawsTight
import PyProof.StrLawsChain
import PySem.Challenge.RW_homeround_k83_tables_written_and_read
set_option Elab.async false
set_option linter.all false
set_option maxRecDepth 100000
set_option maxHeartbeats 4000000
namespace L2
open PySem PySem.Spec PyProof.Rows
noncomputable abbrev Key:=Sum Int Str
noncomputable def vJ:Key→Value→Bool
 | .inl k,v=>Value.isInt k v
 | .inr x,v=>Value.isStrOf x v
noncomputable def zM (w:World):Key→Int
 | .inl k=>hashInt k
 | .inr x=>hashStr w x
theorem aX:∀ {k:Key} {v:Value},vJ k v=true→(∃ i t,k=Sum.inl i∧v=Value.int i t)∨(∃ x t,k=Sum.inr x∧v=Value.str x t)
 | .inl i,v,h=>by
  obtain ⟨t,e⟩:=Value.isInt_shape (k:=i) (v:=v) h
  exact .inl ⟨i,t,rfl,e⟩
 | .inr x,v,h=>by
  obtain ⟨t,e⟩:=Value.isStrOf_shape (x:=x) (v:=v) h
  exact .inr ⟨x,t,rfl,e⟩
theorem vY (a b:Int):decide ((Sum.inl a:Key)=Sum.inl b)=(a == b):=by
 by_cases e:a=b
 ·subst e;simp
 ·have h:¬ (Sum.inl a:Key)=Sum.inl b:=fun q=>e (Sum.inl.inj q)
  rw [decide_eq_false h]
  exact (beq_eq_false_iff_ne.mpr e).symm
theorem xB (a b:Str):decide ((Sum.inr a:Key)=Sum.inr b)=decide (a=b):=by
 by_cases e:a=b
 ·subst e;simp
 ·have h:¬ (Sum.inr a:Key)=Sum.inr b:=fun q=>e (Sum.inr.inj q)
  rw [decide_eq_false h,decide_eq_false e]
theorem vS (a:Int)(b:Str):decide ((Sum.inl a:Key)=Sum.inr b)=false:=decide_eq_false (fun q=>nomatch q)
theorem wT (a:Str)(b:Int):decide ((Sum.inr a:Key)=Sum.inl b)=false:=decide_eq_false (fun q=>nomatch q)
noncomputable def pC (prog:Program) (w:World):PySem.KeyKind prog w Key where
 is:=vJ
 hash:=zM w
 inj:=fun v a b ha hb=>by
  rcases aX ha with ⟨i,t,rfl,rfl⟩ | ⟨x,t,rfl,rfl⟩
  ·rcases aX hb with ⟨j,u,rfl,e⟩ | ⟨y,u,rfl,e⟩
   ·injection e with e1 _;rw [e1]
   ·exact nomatch e
  ·rcases aX hb with ⟨j,u,rfl,e⟩ | ⟨y,u,rfl,e⟩
   ·exact nomatch e
   ·injection e with e1 _;rw [e1]
 byValue:=fun k v h=>by
  rcases aX h with ⟨i,t,rfl,rfl⟩ | ⟨x,t,rfl,rfl⟩ <;> rfl
 pyHash:=fun hv h=>by
  rcases aX hv with ⟨i,t,rfl,rfl⟩ | ⟨x,t,rfl,rfl⟩
  ·exact wpAny_pyHash_int h
  ·exact wpAny_pyHash_str h
 eqBool:=fun hu hv h=>by
  rcases aX hu with ⟨i,t,rfl,rfl⟩ | ⟨x,t,rfl,rfl⟩
  ·rcases aX hv with ⟨j,u,rfl,rfl⟩ | ⟨y,u,rfl,rfl⟩
   ·rw [vY] at h;exact wpAny_eqBool_int h
   ·rw [vS] at h;exact SeqAt.EqAt.int_str i t y u _ _ _ _ h
  ·rcases aX hv with ⟨j,u,rfl,rfl⟩ | ⟨y,u,rfl,rfl⟩
   ·rw [wT] at h;exact SeqAt.EqAt.str_int x t j u _ _ _ _ h
   ·rw [xB] at h;exact wpAny_eqBool_str h
 «strs»:=fun k x t v h=>by
  rcases aX h with ⟨i,u,rfl,e⟩ | ⟨y,u,rfl,e⟩
  ·exact nomatch e
  ·injection e with e1 _
   subst e1
   cases v <;> rfl
end L2
namespace L2
open PySem PySem.Spec PyProof.Rows
inductive V where
 | non | bl (b:Bool) | int (i:Int) | str (x:Str) | byt (b:Array UInt8) | flt (b:UInt64) | ref (a:Addr) | ty (n:String)
 deriving DecidableEq
noncomputable def RelV:V→Value→Prop
 | .non,u=>u=Value.none
 | .bl b,u=>u=Value.bool b
 | .int i,u=>∃ t,u=Value.int i t
 | .str x,u=>∃ t,u=Value.str x t
 | .byt b,u=>∃ t,u=Value.bytes b t
 | .flt b,u=>∃ t,u=Value.float b t
 | .ref a,u=>u=Value.ref a
 | .ty n,u=>u=Value.type n
noncomputable abbrev Vals:List V→List Value→Prop:=Paired RelV
theorem Vals.length {xs:List V}{us:List Value}(r:Vals xs us):xs.length=us.length:=Paired.length r
theorem Vals.get:∀ {xs:List V} {us:List Value} {i:Nat} {x:V},Vals xs us→xs[i]?=some x→∃ u,us[i]?=some u∧RelV x u
 | _,_,_,_, .nil,e=>by simp at e
 | _,_,0,_, .cons r _,e=>by simp at e;subst e;exact ⟨_,rfl,r⟩
 | _,_,i+1,x, .cons _ t,e=>by
  obtain ⟨u,h1,h2⟩:=Vals.get (i:=i) (x:=x) t (by simpa using e)
  exact ⟨u,by simpa using h1,h2⟩
theorem Vals.set {x:V}{u:Value}(r:RelV x u):∀ {xs:List V} {us:List Value} (i:Nat),Vals xs us→Vals (xs.set i x) (us.set i u)
 | _,_,_, .nil => .nil
 | _,_,0, .cons _ t => .cons r t
 | _,_,i+1, .cons q t => .cons q (Vals.set r i t)
theorem Vals.append:∀ {xs ys:List V} {us ws:List Value},Vals xs us→Vals ys ws→Vals (xs++ys) (us++ws)
 | _,_,_,_, .nil,s=>s
 | _,_,_,_, .cons r t,s => .cons r (Vals.append t s)
theorem Vals.take:∀ {xs:List V} {us:List Value} (n:Nat),Vals xs us→Vals (xs.take n) (us.take n)
 | _,_,0,_ => .nil
 | _,_,_+1, .nil => .nil
 | _,_,n+1, .cons r t => .cons r (Vals.take n t)
theorem Vals.drop:∀ {xs:List V} {us:List Value} (n:Nat),Vals xs us→Vals (xs.drop n) (us.drop n)
 | _,_,0,r=>r
 | _,_,_+1, .nil => .nil
 | _,_,n+1, .cons _ t=>Vals.drop n t
noncomputable def zD:Option V→Option Value→Prop
 | some v,some u=>RelV v u
 | none,none=>True
 | _,_=>False
noncomputable def KV {κ:Type}:List (κ × V)→List (κ × Value)→Prop:=Paired fun (p:κ × V) (q:κ × Value)=>p.1=q.1∧RelV p.2 q.2
noncomputable def kV:Key→V
 | .inl i => .int i
 | .inr x => .str x
inductive HO where
 | lst (xs:List V)
 | tup (xs:List V)
 | dK (kvs:List (Key × V)) | dT (kvs:List (List Key × V))
 | set (S:Int→Bool) (n:Nat)
 | ins (C dx:Addr) (fs:List (Str × V))
 | own (x:Addr)
 | xd (fs:List (Str × V))
 | met (f x:Addr)
 | rng (lo hi:Int)
 | frz (o:Obj) (u:HO)
 | tbl (ps:Array Value)
 | ext (φ:Heap→Prop)
noncomputable abbrev Hp:=Addr→Option HO
noncomputable def upd (H:Hp) (a:Addr) (o:HO):Hp:=fun b=>if b=a then some o else H b
theorem aE {H:Hp}{a:Addr}{o:HO}:upd H a o a=some o:=by unfold upd;rw [if_pos rfl]
theorem aJ {H:Hp}{a b:Addr}{o:HO}(h:b≠a):upd H a o b=H b:=by unfold upd;rw [if_neg h]
theorem ne_of {H:Hp}{a b:Addr}{o u:HO}(h:H a=some o)(h':H b=some u)(d:o≠u):a≠b:=by
 intro e;subst e;rw [h] at h';exact d (Option.some.inj h')
theorem aI {H:Hp}{a b:Addr}{o:HO}(h:H a=some o)(h':H b=none):a≠b:=by
 intro e;subst e;rw [h] at h';cases h'
noncomputable def TupN (h:Heap) (a:Addr) (items:Array Value):Prop:=∃ o,h.get? a=some o∧o.cls = .type "tuple"∧(∃ n,o.data = .seq items n)∧o.dict=none
theorem TupN.tup {h:Heap}{a:Addr}{items:Array Value}(p:TupN h a items):IsTup h a items:=let ⟨o,e,c,n,_⟩:=p;⟨o,e,c,n⟩
theorem TupN.new (h:Heap)(items:Array Value):TupN (h.push { cls := .type "tuple",data := .seq items }) h.objs.size items:=⟨_,Heap.get?_push_size _ rfl,rfl,⟨_,rfl⟩,rfl⟩
section
variable (P:Program)(w:World)
noncomputable def ObjOk (H:Hp) (h:Heap) (a:Addr):HO→Prop
 | .lst xs=>xs.length≤sizeLine∧∃ (its:List Value) (n:Nat),Vals xs its∧h.get? a=some { cls := .type "list",data := .seq its.toArray n }
 | .tup xs=>xs.length≤sizeLine∧∃ its:List Value,Vals xs its∧TupN h a its.toArray
 | .dK kvs=>kvs.length≤sizeLine∧(a == sysModules)=false∧∃ vs,KV kvs vs∧h.DictOf (pC P w) a vs
 | .dT kvs=>kvs.length≤sizeLine∧(a == sysModules)=false∧∃ xs:List (List Key × Addr × Value),
   Paired (fun (p:List Key × V) (q:List Key × Addr × Value)=>p.1=q.1∧H q.2.1=some (.tup (p.1.map kV))∧RelV p.2 q.2.2) kvs xs ∧
   ∃ o es ep,h.get? a=some o∧o.ExactDict∧o.data = .dict es ep∧es.toList=xs.map (entryOfKey (tupleKind (pC P w)))∧(xs.map (·.1)).Nodup
 | .set S n=>h.SetOf (intKind P w) a S n
 | .ins C dx fs=>H dx=some (.own a)∧fs.length≤1000∧dx≠a∧h.get? a=some (PySem.W.instObj C dx) ∧
   ∃ mA,h.Ns1 dx mA∧(∀ f,zD (fs.lookup f) (mA f))∧PySem.Within mA (fs.map (·.1))
 | .own _=>∃ o,h.get? a=some o
 | .xd fs=>∃ mA,h.Ns1 a mA∧∀ f,zD (fs.lookup f) (mA f)
 | .rng lo hi=>∃ t u v,h.get? a=some { cls := .type "range",data := .fields #[.int lo t, .int hi u, .int 1 v] }
 | .frz o u=>h.get? a=some o∧ObjOk H h a u
 | .tbl ps=>h.get? a=some { cls := .none,data := .fields ps }
 | .met f x=>h.get? a=some (PySem.W.methodObj (.ref f) (.ref x))
 | .ext φ=>φ h∧(∃ o,h.get? a=some o)∧∀ h1 h2:Heap,φ h1→(∀ o,h1.get? a=some o→h2.get? a=some o)→φ h2
noncomputable def HOk (H:Hp) (h:Heap):Prop:=∀ a o,H a=some o→ObjOk P w H h a o
end
section
variable {P:Program}{w:World}{H H':Hp}{h h':Heap}{a:Addr}{o:HO}
theorem ObjOk.lt (x:ObjOk P w H h a o):a<h.objs.size:=by
 cases o with
 | lst xs=>obtain ⟨_,_,_,_,e⟩:=x;exact Heap.lt_size e
 | tup xs=>obtain ⟨_,_,_,p⟩:=x;exact p.tup.lt
 | dK kvs=>obtain ⟨_,_,_,_,o,_,_,e,_⟩:=x;exact Heap.lt_size e
 | dT kvs=>obtain ⟨_,_,_,_,o,_,_,e,_⟩:=x;exact Heap.lt_size e
 | set S n=>obtain ⟨o,_,_,_,e,_⟩:=x;exact Heap.lt_size e
 | ins C dx fs=>obtain ⟨_,_,_,e,_⟩:=x;exact Heap.lt_size e
 | own y=>obtain ⟨_,e⟩:=x;exact Heap.lt_size e
 | xd fs=>obtain ⟨_,⟨_,_,_,e,_⟩,_⟩:=x;exact Heap.lt_size e
 | rng lo hi=>obtain ⟨_,_,_,e⟩:=x;exact Heap.lt_size e
 | frz ob u=>obtain ⟨e,_⟩:=x;exact Heap.lt_size e
 | tbl ps=>exact Heap.lt_size (show h.get? a=some _ from x)
 | met f y=>exact Heap.lt_size (show h.get? a=some _ from x)
 | ext φ=>obtain ⟨_,⟨_,e⟩,_⟩:=x;exact Heap.lt_size e
theorem Paired.mapP {α β:Type}{F G:α→β→Prop}:∀ {l₁:List α} {l₂:List β},Paired F l₁ l₂→(∀ a b,F a b→G a b)→Paired G l₁ l₂
 | _,_, .nil,_ => .nil
 | _,_, .cons r t,f => .cons (f _ _ r) (Paired.mapP t f)
theorem ObjOk.stay (x:ObjOk P w H h a o)(k:∀ b u,(b=a∨H b=some (.own a))→h.get? b=some u→h'.get? b=some u)
  (ho:∀ b,H b=some (.own a)→H' b=some (.own a)) (ht:∀ b xs,H b=some (.tup xs)→H' b=some (.tup xs)):ObjOk P w H' h' a o:=by
 induction o with
 | lst xs=>obtain ⟨z,its,n,r,e⟩:=x;exact ⟨z,its,n,r,k _ _ (.inl rfl) e⟩
 | tup xs=>obtain ⟨z,its,r,ob,e,c⟩:=x;exact ⟨z,its,r,ob,k _ _ (.inl rfl) e,c⟩
 | dK kvs=>obtain ⟨z,y,vs,r,ob,es,ep,e,c⟩:=x;exact ⟨z,y,vs,r,ob,es,ep,k _ _ (.inl rfl) e,c⟩
 | dT kvs=>
  obtain ⟨z,y,xs,r,ob,es,ep,e,c⟩:=x
  exact ⟨z,y,xs,Paired.mapP r fun p q z=>⟨z.1,ht _ _ z.2.1,z.2.2⟩,ob,es,ep,k _ _ (.inl rfl) e,c⟩
 | set S n=>obtain ⟨ob,es,ep,t,e,c⟩:=x;exact ⟨ob,es,ep,t,k _ _ (.inl rfl) e,c⟩
 | ins C dx fs=>
  obtain ⟨d,z,ne,e,mA,⟨od,es,ep,e2,c⟩,r⟩:=x
  exact ⟨ho _ d,z,ne,k _ _ (.inl rfl) e,mA,⟨od,es,ep,k _ _ (.inr d) e2,c⟩,r⟩
 | own y=>obtain ⟨ob,e⟩:=x;exact ⟨ob,k _ _ (.inl rfl) e⟩
 | xd fs=>obtain ⟨mA,⟨od,es,ep,e,c⟩,r⟩:=x;exact ⟨mA,⟨od,es,ep,k _ _ (.inl rfl) e,c⟩,r⟩
 | rng lo hi=>obtain ⟨t,u,v,e⟩:=x;exact ⟨t,u,v,k _ _ (.inl rfl) e⟩
 | frz ob u ih=>obtain ⟨e,q⟩:=x;exact ⟨k _ _ (.inl rfl) e,ih q⟩
 | tbl ps=>
  have e:h.get? a=some { cls := .none,data := .fields ps }:=x
  show h'.get? a=some { cls := .none,data := .fields ps }
  exact k a _ (.inl rfl) e
 | met f y=>
  have e:h.get? a=some (PySem.W.methodObj (.ref f) (.ref y)):=x
  show h'.get? a=some (PySem.W.methodObj (.ref f) (.ref y))
  exact k a _ (.inl rfl) e
 | ext φ=>obtain ⟨p,⟨o,e⟩,st⟩:=x;exact ⟨st _ _ p fun o q=>k _ _ (.inl rfl) q,⟨o,k _ _ (.inl rfl) e⟩,st⟩
theorem HOk.lt (x:HOk P w H h)(e:H a=some o):a<h.objs.size:=(x a o e).lt
theorem HOk.fresh (x:HOk P w H h)(e:h.objs.size≤a):H a=none:=by
 cases q:H a with
 | none=>rfl
 | some u=>exact absurd (Nat.lt_of_lt_of_le (x.lt q) e) (Nat.lt_irrefl _)
theorem HOk.kept (x:HOk P w H h)(k:∀ b u,h.get? b=some u→h'.get? b=some u):HOk P w H h':=fun a o e=>
 (x a o e).stay (fun b u _ q=>k b u q) (fun _ q=>q) fun _ _ q=>q
theorem HOk.laid (x:HOk P w H h)(k:∀ b u,h.get? b=some u→h'.get? b=some u)(hp:h.objs.size≤a)(new:ObjOk P w (upd H a o) h' a o):HOk P w (upd H a o) h':=fun b u e=>by
 have hn:=x.fresh hp
 by_cases hb:b=a
 ·subst hb;rw [aE] at e;cases e;exact new
 ·rw [aJ hb] at e
  exact (x b u e).stay (fun c v _ q=>k c v q) (fun c q=>by rw [aJ (aI q hn)];exact q) fun c xs q=>by rw [aJ (aI q hn)];exact q
end
noncomputable def Rd (H:Hp) (a:Addr) (u:HO):Prop:=H a=some u∨∃ o,H a=some (.frz o u)
theorem Rd.ok {P:Program}{w:World}{H:Hp}{h:Heap}{a:Addr}{u:HO}(r:Rd H a u)(x:HOk P w H h):ObjOk P w H h a u:=by
 rcases r with r | ⟨o,r⟩
 ·exact x a u r
 ·obtain ⟨_,q⟩:=x a _ r
  exact q
noncomputable def Mut:Option HO→Prop
 | some (.lst _)=>True
 | some (.dK _)=>True
 | some (.dT _)=>True
 | some (.set _ _)=>True
 | some (.ins _ _ _)=>True
 | some (.ext _)=>True
 | _=>False
section
variable {P:Program}{w:World}{H:Hp}{h h':Heap}{x e:Addr}{o':HO}
theorem HOk.write (ok:HOk P w H h)(mu:Mut (H x))(he:e=x∨H e=some (.own x))(k:∀ b u,b≠e→h.get? b=some u→h'.get? b=some u)(heo:∃ u,h'.get? e=some u)
  (new:ObjOk P w (upd H x o') h' x o'):HOk P w (upd H x o') h':=fun b u q=>by
 have nown:∀ c y,H c=some (.own y)→c≠x:=fun c y r z=>by subst z;rw [r] at mu;exact mu
 have ntup:∀ c xs,H c=some (.tup xs)→c≠x:=fun c xs r z=>by subst z;rw [r] at mu;exact mu
 by_cases hb:b=x
 ·subst hb;rw [aE] at q;cases q;exact new
 ·rw [aJ hb] at q
  by_cases hbe:b=e
  ·have q':H b=some (.own x):=by
    rcases he with z | z
    ·exact absurd (hbe.trans z) hb
    ·rw [hbe];exact z
   rw [q] at q';cases q'
   obtain ⟨v,hv⟩:=heo
   exact ⟨v,by rw [hbe];exact hv⟩
  ·refine (ok b u q).stay (fun c v hc r=>k c v ?_ r) (fun c r=>by rw [aJ (nown c b r)];exact r) fun c xs r=>by rw [aJ (ntup c xs r)];exact r
   rcases hc with rfl | hc
   ·exact hbe
   ·rintro rfl
    rcases he with z | z
    ·exact nown c b hc z
    ·rw [hc] at z;cases z;exact hb rfl
end
structure Un (fs ex:List Addr)(H H':Hp)(h h':Heap):Prop where
 keep:∀ b o,h.get? b=some o→H b=none→b∉fs→b∉ex→h'.get? b=some o
 slot:∀ b o,h.get? b=some o→H b=none→b∈fs→b∉ex→∃ sl,h'.get? b=some { o with slots:=sl }
 free:∀ b o,h.get? b=some o→H b=none→b∉ex→H' b=none
 there:∀ b o,h.get? b=some o→b∉ex→∃ o',h'.get? b=some o'
 tups:∀ b xs,H b=some (.tup xs)→H' b=some (.tup xs)
 frzs:∀ b o u,H b=some (.frz o u)→H' b=some (.frz o u)
 tbls:∀ b ps,H b=some (.tbl ps)→∃ more,H' b=some (.tbl (ps++more))
section
variable {fs fs' ex ex':List Addr}{H H1 H2:Hp}{h h1 h2 h':Heap}{a x e:Addr}{o:HO}
theorem Un.any (u:Un fs ex H H1 h h1){b:Addr}{ob:Obj}(q:h.get? b=some ob)(n:H b=none)(hx:b∉ex):∃ sl,h1.get? b=some { ob with slots:=sl }:=by
 by_cases hb:b∈fs
 ·exact u.slot b ob q n hb hx
 ·exact ⟨ob.slots,u.keep b ob q n hb hx⟩
theorem Un.kept (k:∀ b u,h.get? b=some u→h'.get? b=some u):Un fs ex H H h h':=
 ⟨fun b ob q _ _ _=>k b ob q,fun b ob q _ _ _=>⟨ob.slots,k b ob q⟩,fun _ _ _ n _=>n,fun b ob q _=>⟨ob,k b ob q⟩,fun _ _ q=>q,fun _ _ _ q=>q,fun _ ps q=>⟨#[],by rw [q];simp⟩⟩
theorem Un.refl:Un fs ex H H h h:=Un.kept fun _ _ q=>q
theorem Un.laid (k:∀ b u,h.get? b=some u→h'.get? b=some u)(hp:h.objs.size≤a)(hn:H a=none):Un fs ex H (upd H a o) h h' where
 keep:=fun b u q _ _ _=>k b u q
 slot:=fun b u q _ _ _=>⟨u.slots,k b u q⟩
 free:=fun b u q n _=>by rw [aJ (Nat.ne_of_lt (Nat.lt_of_lt_of_le (Heap.lt_size q) hp))];exact n
 there:=fun b u q _=>⟨u,k b u q⟩
 tups:=fun b xs q=>by rw [aJ (aI q hn)];exact q
 frzs:=fun b u xs q=>by rw [aJ (aI q hn)];exact q
 tbls:=fun b ps q=>⟨#[],by rw [aJ (aI q hn),q];simp⟩
theorem Un.write (mu:Mut (H x))(he:e=x∨H e=some (.own x))(k:∀ b u,b≠e→h.get? b=some u→h'.get? b=some u)(heo:∃ u,h'.get? e=some u):Un fs ex H (upd H x o) h h':=by
 have hx:∀ b,H b=none→b≠x:=fun b n z=>by subst z;rw [n] at mu;exact mu
 have hb:∀ b,H b=none→b≠e:=fun b n z=>by
  subst z
  rcases he with r | r
  ·exact hx b n r
  ·rw [n] at r;cases r
 have hm:∀ b u,H b=some u→¬ Mut (some u)→b≠x:=fun b u q nm z=>by subst z;rw [q] at mu;exact nm mu
 refine ⟨fun b u q n _ _=>k b u (hb b n) q,fun b u q n _ _=>⟨u.slots,k b u (hb b n) q⟩,fun b u q n _=>by rw [aJ (hx b n)];exact n,fun b u q _=>?_,
  fun b xs q=>by rw [aJ (hm b _ q fun z=>z)];exact q,fun b u xs q=>by rw [aJ (hm b _ q fun z=>z)];exact q,fun b ps q=>⟨#[],by rw [aJ (hm b _ q fun z=>z),q];simp⟩⟩
 by_cases hbe:b=e
 ·subst hbe;exact heo
 ·exact ⟨u,k b u hbe q⟩
end
noncomputable def trk (h:Heap) (H:Hp):List Addr:=(List.range h.objs.size).filter fun a=>(H a).isSome
noncomputable def sE (h:Heap) (H:Hp):Heap:=PySem.W.hideAll h (trk h H)
theorem pD (h:Heap)(H:Hp):(sE h H).objs.size=h.objs.size:=PySem.W.hideAll_size _ _
theorem sU {h:Heap}{H:Hp}{b:Addr}{o:Obj}(e:h.get? b=some o)(n:H b=none):(sE h H).get? b=some o:=
 PySem.W.hideAll_get _ e fun hm=>by
  have q:(H b).isSome=true:=(List.mem_filter.mp hm).2
  rw [n] at q;simp at q
theorem tM {h:Heap}{H:Hp}{b:Addr}{o:Obj}(e:(sE h H).get? b=some o):h.get? b=some o∧H b=none:=by
 have e':h.get? b=some o:=PySem.W.of_hideAll (trk h H) e
 refine ⟨e',?_⟩
 cases q:H b with
 | none=>rfl
 | some x=>
  have hm:b∈trk h H:=List.mem_filter.mpr ⟨List.mem_range.mpr (Heap.lt_size e'),by simp [q]⟩
  have z:(sE h H).get? b=none:=PySem.W.hideAll_none (trk h H) hm
  rw [z] at e;cases e
end L2
namespace L2
open PySem PySem.Spec PyProof.Rows
structure Mod (K:PySem.W.Frag)(mg:Str→Option Value)(base:Heap):Prop where
 kin:K.In base
 glob:base.Ns mainGlobals mg
 blt:∃ mb,base.Ns builtinsNs mb∧∀ x:Str,x≠"__name__"→mb x=bootBuiltins x
 nolimit:base.NoLimit
structure Cx where
 prog:Program
 w:World
 K:PySem.W.Frag
 mg:Str→Option Value
 base:Heap
 A:Around
 N:List Str
 s₀:Shared
 H₀:Hp
 env:Env
 outer:List Env
 stack:List Env
 ex:List Addr
 fn:Str→Bool
 calm:Bool
 pn:List (Addr × Obj)
 xe:Value→Shared→Prop
noncomputable def frs (l:List Env):List Addr:=l.filterMap (·.frame)
noncomputable abbrev Cx.fs (X:Cx):List Addr:=frs X.outer
noncomputable def Vis (sc:Scope) (x:Str):Prop:=sc.names.lookup x=some .local∨sc.names.lookup x=some .cell∨sc.names.lookup x=some .free
noncomputable def Loc (sc:Scope) (x:Str):Prop:=sc.names.lookup x=some .local∨sc.names.lookup x=some .cell
noncomputable def zN (env:Env) (h:Heap) (m:Str→Option Value) (x:Str) (u:Value):Prop:=
 (env.kindOf x=some .local∧m x=some u)∨((env.kindOf x=some .cell∨env.kindOf x=some .free)∧∃ c,env.cells.lookup x=some c∧h.IsCell c (some u))
structure Cx.Ok (X:Cx):Prop where
 mod:Mod X.K X.mg X.base
 kind:X.env.scope.kind = .function
 glob:X.env.globals=mainGlobals
 blt:X.env.builtins=builtinsNs
 above:X.s₀.heap.objs.size≤X.env.locals
 inj:∀ x y c,X.env.cells.lookup x=some c→X.env.cells.lookup y=some c→x=y
 has:∀ x,(X.env.kindOf x=some .cell∨X.env.kindOf x=some .free)→∃ c,X.env.cells.lookup x=some c
 cab:∀ x c,X.fn x=true→X.env.cells.lookup x=some c→X.s₀.heap.objs.size≤c
 hd:X.calm=true→X.A.handled=none
 frames:X.A.frames=some X.stack
 stk:X.stack=X.outer∨(X.stack=X.env :: X.outer∧X.env.frame=some X.env.locals)
 exf:∀ b∈X.ex,b≠X.env.locals∧∀ x c,X.env.cells.lookup x=some c→c≠b
 bs:∀ b o,X.base.get? b=some o→X.s₀.heap.get? b=some o∧X.H₀ b=none
 bsz:X.base.objs.size≤X.s₀.heap.objs.size
 noex:∀ b o,X.base.get? b=some o→b∉X.ex
 exfs:∀ b∈X.ex,b∉X.fs
 funs:X.s₀.heap.FunFrames X.base X.outer
 frf:∀ b∈X.fs,X.H₀ b=none
structure Inv (X:Cx)(pins:List (Addr × Obj))(σ:List (Option V))(H:Hp)(s:Shared):Prop where
 ok:X.Ok
 os:s.os=X.s₀.os
 bare:AllBare s.gens
 base:Un X.fs X.ex X.H₀ H X.s₀.heap s.heap
 loc:∃ m,s.heap.Ns X.env.locals m∧∀ (i:Nat) (x:Str) (v:V),X.N[i]?=some x→σ[i]?=some (some v)→Vis X.env.scope x→∃ u,RelV v u∧zN X.env s.heap m x u
 cell:∀ x c,X.env.cells.lookup x=some c→∃ v,s.heap.IsCell c v
 free:H X.env.locals=none
 freeC:∀ x c,X.env.cells.lookup x=some c→H c=none
 pin:∀ p∈X.pn++pins,s.heap.get? p.1=some p.2∧H p.1=none∧p.1≠X.env.locals∧p.1∉X.fs∧∀ v,p.2.data ≠ .cell v
 hok:HOk X.prog X.w H s.heap
 len:σ.length=X.N.length
section
variable {X:Cx}{pins:List (Addr × Obj)}{σ:List (Option V)}{H H':Hp}{s:Shared}{h':Heap}
theorem Cx.Ok.nofr (ok:X.Ok){b:Addr}{o:Obj}(e:X.base.get? b=some o):b∉X.fs:=fun hb=>by
 have:=(ok.funs.mem hb).1
 rw [e] at this;cases this
theorem Inv.bs (I:Inv X pins σ H s):∀ b o,X.base.get? b=some o→s.heap.get? b=some o∧H b=none:=fun b o e=>
 ⟨I.base.keep b o (I.ok.bs b o e).1 (I.ok.bs b o e).2 (I.ok.nofr e) (I.ok.noex b o e),I.base.free b o (I.ok.bs b o e).1 (I.ok.bs b o e).2 (I.ok.noex b o e)⟩
theorem Inv.bk (I:Inv X pins σ H s):∀ b o,X.base.get? b=some o→s.heap.get? b=some o:=fun b o e=>(I.bs b o e).1
theorem Inv.mod (I:Inv X pins σ H s):Mod X.K X.mg X.base:=I.ok.mod
theorem Inv.kIn (I:Inv X pins σ H s):X.K.In s.heap:=I.ok.mod.kin.keeps I.bk
theorem Inv.lt (I:Inv X pins σ H s):X.env.locals<s.heap.objs.size:=let ⟨_,hn,_⟩:=I.loc;hn.lt
theorem Inv.sz (I:Inv X pins σ H s):X.s₀.heap.objs.size≤s.heap.objs.size:=Nat.le_trans I.ok.above (Nat.le_of_lt I.lt)
theorem Inv.nofs (I:Inv X pins σ H s){a:Addr}(h:s.heap.objs.size≤a):a∉X.fs:=fun hb=>by
 obtain ⟨_,o,ho,_⟩:=I.ok.funs.mem hb
 exact absurd (Nat.lt_of_lt_of_le (Heap.lt_size ho) (Nat.le_trans I.sz h)) (Nat.lt_irrefl _)
theorem Inv.cne (I:Inv X pins σ H s):∀ x c,X.env.cells.lookup x=some c→c≠X.env.locals:=fun x c e z=>by
 obtain ⟨v,o,ho,hd⟩:=I.cell x c e
 obtain ⟨m,⟨o',es,ep,ho',hd',_⟩,_⟩:=I.loc
 rw [z,ho'] at ho;cases ho;rw [hd'] at hd;cases hd
theorem Inv.funs (I:Inv X pins σ H s):s.heap.FunFrames X.base X.outer:=by
 have all:∀ (l:List Env),(∀ b∈frs l,b∈X.fs)→X.s₀.heap.FunFrames X.base l→s.heap.FunFrames X.base l:=by
  intro l
  induction l with
  | nil=>intro _ _;trivial
  | cons env r ih=>
   intro hs hl
   obtain ⟨hk,⟨L,o,hf,hn,ho,hd⟩,hr⟩:=hl
   have hL:L∈X.fs:=hs L (by unfold frs;rw [List.filterMap_cons,hf];exact List.mem_cons_self)
   obtain ⟨sl,e⟩:=I.base.slot L o ho (I.ok.frf L hL) hL fun z=>I.ok.exfs L z hL
   exact ⟨hk,⟨L,_,hf,hn,e,hd⟩,ih (fun b hb=>hs b (by unfold frs;rw [List.filterMap_cons,hf];exact List.mem_cons_of_mem _ hb)) hr⟩
 exact all X.outer (fun _ hb=>hb) I.ok.funs
theorem Inv.stack (I:Inv X pins σ H s):s.heap.FunFrames X.base X.stack:=by
 rcases I.ok.stk with e | ⟨e,hf⟩
 ·rw [e];exact I.funs
 ·rw [e]
  obtain ⟨m,hn,_⟩:=I.loc
  refine .cons (by rw [I.ok.kind];decide) hf hn ?_ I.funs
  exact Heap.get?_none_of_le (Nat.le_trans I.ok.bsz I.ok.above)
theorem Inv.stkSub (I:Inv X pins σ H s):∀ b∈frs X.stack,b∈X.env.locals :: X.fs:=fun b hb=>by
 rcases I.ok.stk with e | ⟨e,hf⟩
 ·rw [e] at hb;exact List.mem_cons_of_mem _ hb
 ·rw [e] at hb
  unfold frs at hb
  rw [List.filterMap_cons,hf] at hb
  exact hb
theorem Inv.stkFree (I:Inv X pins σ H s):∀ b∈frs X.stack,H b=none:=fun b hb=>by
 rcases List.mem_cons.mp (I.stkSub b hb) with e | hb
 ·rw [e];exact I.free
 ·obtain ⟨_,o,ho,_⟩:=I.ok.funs.mem hb
  exact I.base.free b o ho (I.ok.frf b hb) fun z=>I.ok.exfs b z hb
theorem Inv.step {g':Array GenState}{t':Nat}{d':Drawn}{ch:List Addr}(I:Inv X pins σ H s)
  (hch:∀ b∈ch,(b∈X.ex∨X.s₀.heap.objs.size≤b)∧b≠X.env.locals∧(∀ x c,X.env.cells.lookup x=some c→c≠b)∧∀ p∈X.pn++pins,p.1≠b)
  (keep:∀ b o,b≠X.env.locals→b∉X.fs→b∉ch→s.heap.get? b=some o→H b=none→h'.get? b=some o)
  (slot:∀ b o,b≠X.env.locals→b∈X.fs→b∉ch→s.heap.get? b=some o→H b=none→∃ sl,h'.get? b=some { o with slots:=sl }) (free:∀ b o,b∉ch→s.heap.get? b=some o→H b=none→H' b=none)
  (there:∀ b o,b∉ch→s.heap.get? b=some o→∃ o',h'.get? b=some o')
  (tups:∀ b xs,H b=some (.tup xs)→H' b=some (.tup xs)) (frzs:∀ b o u,H b=some (.frz o u)→H' b=some (.frz o u)) (tbls:∀ b ps,H b=some (.tbl ps)→∃ more,H' b=some (.tbl (ps++more)))
  (ns:∀ m,s.heap.Ns X.env.locals m→h'.Ns X.env.locals m) (hok:HOk X.prog X.w H' h') (hg:AllBare g') :
  Inv X pins σ H' { s with heap:=h',gens:=g',drawn:=d',toks:=t' }:=by
 have neL:∀ b o,X.s₀.heap.get? b=some o→b≠X.env.locals:=fun b o e=>Nat.ne_of_lt (Nat.lt_of_lt_of_le (Heap.lt_size e) I.ok.above)
 have neC:∀ b o,X.s₀.heap.get? b=some o→b∉X.ex→b∉ch:=fun b o e hx hb=>by
  rcases (hch b hb).1 with z | z
  ·exact hx z
  ·exact absurd (Nat.lt_of_lt_of_le (Heap.lt_size e) z) (Nat.lt_irrefl _)
 have cellK:∀ x c,X.env.cells.lookup x=some c→∀ v,s.heap.IsCell c v→h'.IsCell c v:=fun x c e v ⟨o,ho,hd⟩=>by
  have nch:c∉ch:=fun z=>(hch c z).2.2.1 x c e rfl
  by_cases hc:c∈X.fs
  ·obtain ⟨sl,q⟩:=slot c o (I.cne x c e) hc nch ho (I.freeC x c e)
   exact ⟨_,q,hd⟩
  ·exact ⟨o,keep c o (I.cne x c e) hc nch ho (I.freeC x c e),hd⟩
 refine ⟨I.ok,I.os,hg,⟨fun b o e n hb hx=>?_,fun b o e n hb hx=>?_,fun b o e n hx=>?_,fun b o e hx=>?_,fun b xs e=>tups b xs (I.base.tups b xs e),fun b o xs e=>frzs b o xs (I.base.frzs b o xs e),fun b ps e=>?_⟩,?_,fun x c e=>?_,?_,fun x c e=>?_,fun p hp=>?_,hok,I.len⟩
 ·exact keep b o (neL b o e) hb (neC b o e hx) (I.base.keep b o e n hb hx) (I.base.free b o e n hx)
 ·obtain ⟨sl,e1⟩:=I.base.slot b o e n hb hx
  obtain ⟨sl',e2⟩:=slot b _ (neL b o e) hb (neC b o e hx) e1 (I.base.free b o e n hx)
  exact ⟨sl',e2⟩
 ·obtain ⟨o',e1⟩:=I.base.there b o e hx
  exact free b o' (neC b o e hx) e1 (I.base.free b o e n hx)
 ·obtain ⟨o',e1⟩:=I.base.there b o e hx
  exact there b o' (neC b o e hx) e1
 ·obtain ⟨m1,e1⟩:=I.base.tbls b ps e
  obtain ⟨m2,e2⟩:=tbls b _ e1
  exact ⟨m1++m2,by rw [e2,Array.append_assoc]⟩
 ·obtain ⟨m,hn,hl⟩:=I.loc
  refine ⟨m,ns m hn,fun i x v e1 e2 e3=>?_⟩
  obtain ⟨u,r,l⟩:=hl i x v e1 e2 e3
  refine ⟨u,r,?_⟩
  rcases l with l | ⟨k,c,e,z⟩
  ·exact .inl l
  ·exact .inr ⟨k,c,e,cellK x c e _ z⟩
 ·obtain ⟨v,z⟩:=I.cell x c e
  exact ⟨v,cellK x c e v z⟩
 ·obtain ⟨m,⟨o,_,_,ho,_⟩,_⟩:=I.loc
  exact free _ o (fun z=>(hch _ z).2.1 rfl) ho I.free
 ·obtain ⟨v,o,ho,hd⟩:=I.cell x c e
  exact free c o (fun z=>(hch c z).2.2.1 x c e rfl) ho (I.freeC x c e)
 ·obtain ⟨e,n,ne,nf,d⟩:=I.pin p hp
  have nch:p.1∉ch:=fun z=>(hch p.1 z).2.2.2 p hp rfl
  exact ⟨keep p.1 p.2 ne nf nch e n,free p.1 p.2 nch e n,ne,nf,d⟩
theorem Inv.un {t':Nat}(I:Inv X pins σ H s)(u:Un X.fs [] H H' s.heap h')(hok:HOk X.prog X.w H' h'):Inv X pins σ H' { s with heap:=h',toks:=t' }:=by
 obtain ⟨m,⟨o,es,ep,ho,r⟩,_⟩:=id I.loc
 obtain ⟨sl,hL⟩:=u.any ho I.free (by simp)
 exact I.step (g':=s.gens) (d':=s.drawn) (ch:=[]) (fun _ z=>nomatch z) (fun b o _ hb _ e n=>u.keep b o e n hb (by simp)) (fun b o _ hb _ e n=>u.slot b o e n hb (by simp)) (fun b o _ e n=>u.free b o e n (by simp)) (fun b o _ e=>u.there b o e (by simp)) u.tups u.frzs u.tbls (fun m' hm=>by
  obtain ⟨o',es',ep',ho',r'⟩:=hm
  rw [ho] at ho';cases ho'
  exact ⟨_,es',ep',hL,r'⟩) hok I.bare
theorem Inv.call {g':Array GenState}{t':Nat}{d':Drawn}{ch:List Addr}(I:Inv X pins σ H s)(u:Un (frs X.stack) ch H H' s.heap h')(hok:HOk X.prog X.w H' h')(hg:AllBare g')
  (hch:∀ b∈ch,(b∈X.ex∨X.s₀.heap.objs.size≤b)∧b≠X.env.locals∧(∀ x c,X.env.cells.lookup x=some c→c≠b)∧∀ p∈X.pn++pins,p.1≠b) :
  Inv X pins σ H' { s with heap:=h',gens:=g',drawn:=d',toks:=t' }:=by
 obtain ⟨m,⟨o,es,ep,ho,r⟩,_⟩:=id I.loc
 obtain ⟨sl,hL⟩:=u.any ho I.free fun z=>(hch _ z).2.1 rfl
 exact I.step (ch:=ch) hch (fun b o hL hb hc e n=>u.keep b o e n (fun z=>(List.mem_cons.mp (I.stkSub b z)).elim hL hb) hc) (fun b o _ _ hc e n=>u.any e n hc) (fun b o hc e n=>u.free b o e n hc) (fun b o hc e=>u.there b o e hc) u.tups u.frzs u.tbls (fun m' hm=>by
  obtain ⟨o',es',ep',ho',r'⟩:=hm
  rw [ho] at ho';cases ho'
  exact ⟨_,es',ep',hL,r'⟩) hok hg
theorem Inv.turned {t':Nat}{it:Addr}(I:Inv X pins σ H s)(k:∀ b o,b≠it→s.heap.get? b=some o→h'.get? b=some o)(hn:H it=none)(hL:it≠X.env.locals)
  (h1:it∈X.ex∨X.s₀.heap.objs.size≤it) (h2:∀ x c,X.env.cells.lookup x=some c→c≠it) (h3:∀ p∈X.pn++pins,p.1≠it):Inv X pins σ H { s with heap:=h',toks:=t' }:=by
 have nit:∀ b u,H b=some u→b≠it:=fun b u e z=>by rw [z,hn] at e;cases e
 refine I.step (g':=s.gens) (d':=s.drawn) (ch:=[it]) (fun b hb=>?_) (fun b o _ _ hc e _=>k b o (fun z=>hc (by simp [z])) e) (fun b o _ _ hc e _=>⟨o.slots,k b o (fun z=>hc (by simp [z])) e⟩) (fun _ _ _ _ n=>n)
  (fun b o hc e=>⟨o,k b o (fun z=>hc (by simp [z])) e⟩) (fun _ _ e=>e) (fun _ _ _ e=>e) (fun b ps e=>⟨#[],by rw [e];simp⟩) (fun m hm=>?_) (fun b u e=>?_) I.bare
 ·have e:b=it:=by simpa using hb
  subst e
  exact ⟨h1,hL,h2,h3⟩
 ·obtain ⟨o,es,ep,ho,r⟩:=hm
  exact ⟨o,es,ep,k _ o (Ne.symm hL) ho,r⟩
 ·refine (I.hok b u e).stay (fun c v hc q=>k c v ?_ q) (fun _ q=>q) fun _ _ q=>q
  rcases hc with z | z
  ·rw [z];exact nit b u e
  ·exact nit c _ z
theorem Inv.tok (I:Inv X pins σ H s)(t:Nat):Inv X pins σ H { s with toks:=t }:=I.un (h':=s.heap) (t':=t) Un.refl I.hok
theorem Inv.kept {t':Nat}(I:Inv X pins σ H s)(k:∀ b u,s.heap.get? b=some u→h'.get? b=some u):Inv X pins σ H { s with heap:=h',toks:=t' }:=I.un (Un.kept k) (I.hok.kept k)
theorem Inv.laid {a:Addr}{o:HO}{t':Nat}(I:Inv X pins σ H s)(k:∀ b u,s.heap.get? b=some u→h'.get? b=some u)(hp:s.heap.objs.size≤a)(new:ObjOk X.prog X.w (upd H a o) h' a o) :
  Inv X pins σ (upd H a o) { s with heap:=h',toks:=t' }:=I.un (Un.laid k hp (I.hok.fresh hp)) (I.hok.laid k hp new)
theorem Inv.write {x e:Addr}{o:HO}{t':Nat}(I:Inv X pins σ H s)(mu:Mut (H x))(he:e=x∨H e=some (.own x))(k:∀ b u,b≠e→s.heap.get? b=some u→h'.get? b=some u)(heo:∃ u,h'.get? e=some u)
  (new:ObjOk X.prog X.w (upd H x o) h' x o):Inv X pins σ (upd H x o) { s with heap:=h',toks:=t' }:=I.un (Un.write mu he k heo) (I.hok.write mu he k heo new)
theorem Inv.pins_of {pins':List (Addr × Obj)}(I:Inv X pins σ H s)(h:∀ p∈pins',s.heap.get? p.1=some p.2∧H p.1=none∧p.1≠X.env.locals∧p.1∉X.fs∧∀ v,p.2.data ≠ .cell v):Inv X pins' σ H s:=
 ⟨I.ok,I.os,I.bare,I.base,I.loc,I.cell,I.free,I.freeC,fun p hp=>(List.mem_append.mp hp).elim (fun z=>I.pin p (List.mem_append_left _ z)) (h p),I.hok,I.len⟩
theorem nG {N:List Str}(hN:N.Nodup){i j:Nat}{x:Str}(a:N[i]?=some x)(b:N[j]?=some x):i=j:=by
 obtain ⟨h1,e1⟩:=List.getElem?_eq_some_iff.mp a
 obtain ⟨h2,e2⟩:=List.getElem?_eq_some_iff.mp b
 exact (List.getElem_inj hN).mp (e1.trans e2.symm)
theorem lN {M:Model}{A:Around}{E:Value→Shared→Prop}{i:Nat}{x:Str}{v:V}{u:Value}{Q:Unit→Shared→Prop}(I:Inv X pins σ H s)(hN:X.N.Nodup)(hi:X.N[i]?=some x)(hx:Loc X.env.scope x)(r:RelV v u)
  (h:∀ s',Inv X pins (σ.set i (some v)) H s'→(∃ a,Heap.SameBut a s.heap s'.heap∧(a=X.env.locals∨X.env.cells.lookup x=some a))→Q () s') (hf:X.fn x=true∨X.env.scope.names.lookup x=some .local:=by first | exact .inl rfl | exact .inr rfl | assumption):wpAny M A (storeName X.env x u) Q E s:=by
 obtain ⟨m,hn,hl⟩:=id I.loc
 have hcls:(X.env.scope.kind == .class || (X.env.scope.kind == .module && X.env.locals != X.env.globals))=false:=by rw [I.ok.kind];rfl
 have hiσ:i<σ.length:=by rw [I.len];exact (List.getElem?_eq_some_iff.mp hi).1
 have cne:=I.cne
 have tracked:∀ {a:Addr} {h':Heap},(∃ o,s.heap.get? a=some o∧H a=none)→Heap.SameBut a s.heap h'→HOk X.prog X.w H h':=fun {a h'} ha hs b ob e=>by
  obtain ⟨_,_,hfree⟩:=ha
  refine (I.hok b ob e).stay (fun c w' hc q=>(hs.2 c ?_).trans q) (fun _ q=>q) fun _ _ q=>q
  rintro rfl
  rcases hc with rfl | hc
  ·rw [hfree] at e;cases e
  ·rw [hfree] at hc;cases hc
 rcases hx with hk | hk
 ·refine wpAny_storeName_local hk hn (fun h' hn' hs=>?_) hcls
  obtain ⟨oL,_,_,hoL,_⟩:=id hn
  refine h _ ⟨I.ok,I.os,I.bare,⟨fun b o e n hb hx=>?_,fun b o e n hb hx=>?_,I.base.free,fun b o e hx=>?_,I.base.tups,I.base.frzs,I.base.tbls⟩,⟨_,hn',fun j y v' e1 e2 e3=>?_⟩,fun y c e=>?_,I.free,I.freeC,fun p hp=>?_,tracked ⟨oL,hoL,I.free⟩ hs,by simpa using I.len⟩ ⟨_,hs, .inl rfl⟩
  ·exact (hs.2 b (Nat.ne_of_lt (Nat.lt_of_lt_of_le (Heap.lt_size e) I.ok.above))).trans (I.base.keep b o e n hb hx)
  ·obtain ⟨sl,e1⟩:=I.base.slot b o e n hb hx
   exact ⟨sl,(hs.2 b (Nat.ne_of_lt (Nat.lt_of_lt_of_le (Heap.lt_size e) I.ok.above))).trans e1⟩
  ·obtain ⟨o',e1⟩:=I.base.there b o e hx
   exact ⟨o',(hs.2 b (Nat.ne_of_lt (Nat.lt_of_lt_of_le (Heap.lt_size e) I.ok.above))).trans e1⟩
  ·by_cases hj:j=i
   ·subst hj
    rw [hi] at e1;cases e1
    rw [List.getElem?_set_self hiσ] at e2
    cases e2
    exact ⟨u,r, .inl ⟨hk,by simp⟩⟩
   ·rw [List.getElem?_set_ne (Ne.symm hj)] at e2
    obtain ⟨u',r',q⟩:=hl j y v' e1 e2 e3
    refine ⟨u',r',?_⟩
    rcases q with ⟨k,e⟩ | ⟨k,c,e,z⟩
    ·refine .inl ⟨k,?_⟩
     have:y≠x:=fun e=>hj (nG hN e1 (e ▸ hi))
     simp [this,e]
    ·exact .inr ⟨k,c,e,z.sameBut hs (cne y c e)⟩
  ·obtain ⟨w',z⟩:=I.cell y c e
   exact ⟨w',z.sameBut hs (cne y c e)⟩
  ·obtain ⟨e,n,ne,nf,d⟩:=I.pin p hp
   exact ⟨(hs.2 p.1 ne).trans e,n,ne,nf,d⟩
 ·have hfn:X.fn x=true:=by
   rcases hf with z | z
   ·exact z
   ·rw [z] at hk;cases hk
  obtain ⟨c,hc⟩:=I.ok.has x (.inl hk)
  obtain ⟨w',z⟩:=I.cell x c hc
  refine wpAny_storeName_cell I.ok.kind hk hc z (fun h' hc' hs=>?_)
  obtain ⟨oc,hoc,hocd⟩:=id z
  refine h { s with heap:=h' } ⟨I.ok,I.os,I.bare,⟨fun b o e n hb hx=>?_,fun b o e n hb hx=>?_,I.base.free,fun b o e hx=>?_,I.base.tups,I.base.frzs,I.base.tbls⟩,⟨m,hn.sameBut hs (Ne.symm (cne x c hc)),fun j y v' e1 e2 e3=>?_⟩,fun y c' e=>?_,I.free,I.freeC,fun p hp=>?_,tracked ⟨oc,hoc,I.freeC x c hc⟩ hs,by simpa using I.len⟩ ⟨c,hs, .inr hc⟩
  ·exact (hs.2 b (Nat.ne_of_lt (Nat.lt_of_lt_of_le (Heap.lt_size e) (I.ok.cab x c hfn hc)))).trans (I.base.keep b o e n hb hx)
  ·obtain ⟨sl,e1⟩:=I.base.slot b o e n hb hx
   exact ⟨sl,(hs.2 b (Nat.ne_of_lt (Nat.lt_of_lt_of_le (Heap.lt_size e) (I.ok.cab x c hfn hc)))).trans e1⟩
  ·obtain ⟨o',e1⟩:=I.base.there b o e hx
   exact ⟨o',(hs.2 b (Nat.ne_of_lt (Nat.lt_of_lt_of_le (Heap.lt_size e) (I.ok.cab x c hfn hc)))).trans e1⟩
  ·by_cases hj:j=i
   ·subst hj
    rw [hi] at e1;cases e1
    rw [List.getElem?_set_self hiσ] at e2
    cases e2
    exact ⟨u,r, .inr ⟨.inl hk,c,hc,hc'⟩⟩
   ·rw [List.getElem?_set_ne (Ne.symm hj)] at e2
    obtain ⟨u',r',q⟩:=hl j y v' e1 e2 e3
    refine ⟨u',r',?_⟩
    rcases q with q | ⟨k,c',e,z'⟩
    ·exact .inl q
    ·refine .inr ⟨k,c',e,z'.sameBut hs ?_⟩
     rintro rfl
     exact hj (nG hN e1 (I.ok.inj _ _ _ e hc ▸ hi))
  ·by_cases hcc:c'=c
   ·subst hcc;exact ⟨_,hc'⟩
   ·obtain ⟨w2,z2⟩:=I.cell y c' e
    exact ⟨w2,z2.sameBut hs hcc⟩
  ·obtain ⟨e,n,ne,nf,d⟩:=I.pin p hp
   refine ⟨(hs.2 p.1 ?_).trans e,n,ne,nf,d⟩
   intro q
   rw [q,hoc] at e
   have q':oc=p.2:=Option.some.inj e
   exact d w' (by rw [← q'];exact hocd)
theorem nN {M:Model}{A:Around}{E:Value→Shared→Prop}{i:Nat}{x:Str}{v:V}{u:Value}{Q:Unit→Shared→Prop}(I:Inv X pins σ H s)(hN:X.N.Nodup)(hi:X.N[i]?=some x)(hx:Loc X.env.scope x)(r:RelV v u)
  (h:∀ s',Inv X pins (σ.set i (some v)) H s'→Q () s') (hf:X.fn x=true∨X.env.scope.names.lookup x=some .local:=by first | exact .inl rfl | exact .inr rfl | assumption):wpAny M A (storeName X.env x u) Q E s:=
 lN I hN hi hx r (fun s' I' _=>h s' I') hf
theorem Inv.call' {s':Shared}{ch:List Addr}(I:Inv X pins σ H s)(ho:s'.os=s.os)(u:Un (frs X.stack) ch H H' s.heap s'.heap)(hok:HOk X.prog X.w H' s'.heap)(hg:AllBare s'.gens)
  (hch:∀ b∈ch,(b∈X.ex∨X.s₀.heap.objs.size≤b)∧b≠X.env.locals∧(∀ x c,X.env.cells.lookup x=some c→c≠b)∧∀ p∈X.pn++pins,p.1≠b):Inv X pins σ H' s':=by
 obtain ⟨h',g',d',t',o'⟩:=s'
 have e:o'=s.os:=ho
 subst e
 exact I.call (g':=g') (t':=t') (d':=d') u hok hg hch
end
noncomputable abbrev XK:=Value→Option Addr→Hp→Prop
noncomputable abbrev St:=List (Option V)
noncomputable abbrev VK:=V→Hp→Prop
noncomputable abbrev TE:=St→Hp→VK→Prop
noncomputable abbrev TT:=St→Hp→(Bool→Hp→Prop)→Prop
noncomputable abbrev TA:=St→Hp→(List V→Hp→Prop)→Prop
structure kA where
 nx:St→Hp→Prop
 rt:VK
 bk:St→Hp→Prop:=fun _ _=>False
 ct:St→Hp→Prop:=fun _ _=>False
noncomputable abbrev TS:=kA→St→Hp→Prop
noncomputable def EP (X:Cx) (pins:List (Addr × Obj)) (σ:St) (Q:VK) (u:Value) (s':Shared):Prop:=∃ v H',Inv X pins σ H' s'∧RelV v u∧Q v H'
noncomputable def TP (X:Cx) (pins:List (Addr × Obj)) (σ:St) (Q:Bool→Hp→Prop) (b:Bool) (s':Shared):Prop:=∃ H',Inv X pins σ H' s'∧Q b H'
noncomputable def AP (X:Cx) (pins:List (Addr × Obj)) (σ:St) (Q:List V→Hp→Prop) (us:List Value) (s':Shared):Prop:=∃ vs H',Inv X pins σ H' s'∧Vals vs us∧Q vs H'
noncomputable def SP (X:Cx) (pins:List (Addr × Obj)) (D:kA) (f:Flow) (s':Shared):Prop:=
 match f with
 | .next=>∃ σ' H',Inv X pins σ' H' s'∧D.nx σ' H'
 | .brk=>∃ σ' H',Inv X pins σ' H' s'∧D.bk σ' H'
 | .cont=>∃ σ' H',Inv X pins σ' H' s'∧D.ct σ' H'
 | .ret u=>∃ v σ' H',Inv X pins σ' H' s'∧RelV v u∧D.rt v H'
noncomputable def PE (X:Cx) (e:Expr) (t:TE):Prop:=
 ∀ (pins:List (Addr × Obj)) (s:Shared) (σ:St) (H:Hp) (Q:VK),Inv X pins σ H s→t σ H Q→wpAny (model X.prog X.w) X.A (eval e X.env) (EP X pins σ Q) X.xe s
noncomputable def PT (X:Cx) (e:Expr) (t:TT):Prop:=
 ∀ (pins:List (Addr × Obj)) (s:Shared) (σ:St) (H:Hp) (Q:Bool→Hp→Prop),Inv X pins σ H s→t σ H Q→wpAny (model X.prog X.w) X.A (isTrue e X.env (eval e X.env)) (TP X pins σ Q) X.xe s
noncomputable def PW (X:Cx) (e:Expr) (t:TT):Prop:=
 ∀ (whole:Sem Value) (pins:List (Addr × Obj)) (s:Shared) (σ:St) (H:Hp) (Q:Bool→Hp→Prop),Inv X pins σ H s→t σ H Q→wpAny (model X.prog X.w) X.A (isTrue e X.env whole) (TP X pins σ Q) X.xe s
theorem PW.pt {X:Cx}{e:Expr}{t:TT}(h:PW X e t):PT X e t:=h _
noncomputable def PA (X:Cx) (es:List Expr) (t:TA):Prop:=
 ∀ (pos:Pos) (pins:List (Addr × Obj)) (s:Shared) (σ:St) (H:Hp) (Q:List V→Hp→Prop),Inv X pins σ H s→t σ H Q→wpAny (model X.prog X.w) X.A (spliced (backTo pos (starEach es X.env))) (AP X pins σ Q) X.xe s
noncomputable def PS (X:Cx) (st:Stmt) (t:TS):Prop:=
 ∀ (pins:List (Addr × Obj)) (s:Shared) (σ:St) (H:Hp) (D:kA),Inv X pins σ H s→t D σ H→wpAny (model X.prog X.w) X.A (exec st X.env) (SP X pins D) X.xe s
noncomputable def PSs (X:Cx) (st:List Stmt) (t:TS):Prop:=
 ∀ (pins:List (Addr × Obj)) (s:Shared) (σ:St) (H:Hp) (D:kA),Inv X pins σ H s→t D σ H→wpAny (model X.prog X.w) X.A (execs st X.env) (SP X pins D) X.xe s
theorem thn {α:Type}{t:Sem α}{Q Q':α→Shared→Prop}{M:Model}{A:Around}{E:Value→Shared→Prop}{s:Shared}(h:wpAny M A t Q E s)(hQ:∀ a s,Q a s→Q' a s):wpAny M A t Q' E s:=wpAny_mono h hQ fun _ _ x=>x
end L2
namespace L2
open PySem PySem.Spec PyProof.Rows
section
variable {X:Cx}
inductive wR (i:Nat) (σ:St) (H:Hp) (Q:VK):Prop
 | mk (v:V) (h:σ[i]?=some (some v)) (q:Q v H):wR i σ H Q
noncomputable def aK (i:Nat):TE:=fun σ H Q=>wR i σ H Q
noncomputable def tC (v:V):TE:=fun _ H Q=>Q v H
theorem wA {i:Nat}{x:Str}{pos:Pos}(hN:X.N[i]?=some x)(hv:Vis X.env.scope x)(hd:(x == ("__debug__" : Str))=false:=by decide)(hcd:(x == ("__classdict__" : Str))=false:=by decide):PE X (.Name x pos) (aK i):=by
 intro pins s σ H Q I h
 obtain ⟨v,e,h⟩:=h
 obtain ⟨m,hn,hl⟩:=I.loc
 obtain ⟨u,r,l⟩:=hl i x v hN e hv
 have fin:EP X pins σ Q u s:=⟨v,H,I,r,h⟩
 rcases l with ⟨hk,hm⟩ | ⟨hk,c,hc,hcell⟩
 ·exact wpAny_Name (wpAny_loadName_local I.ok.kind hk hn hm fin) hd
 ·rcases hk with hk | hk
  ·exact wpAny_Name (wpAny_loadName_cell I.ok.kind hk hc hcell fin) hd
  ·exact wpAny_Name (wpAny_loadName_free I.ok.kind hk hc hcell fin hcd) hd
theorem aH {i j pos}:PE X (.Constant (.int i) j pos) (tC (.int i)):=fun _ _ _ H _ I h=>wpAny_Constant_int ⟨.int i,H,I.tok _,⟨_,rfl⟩,h⟩
theorem oH {b j pos}:PE X (.Constant (.bool b) j pos) (tC (.bl b)):=fun _ _ _ H _ I h=>Constant_bool ⟨.bl b,H,I,rfl,h⟩
theorem oR {j pos}:PE X (.Constant .none j pos) (tC .non):=fun _ _ _ H _ I h=>Constant_none ⟨.non,H,I,rfl,h⟩
theorem kQ {x j pos}:PE X (.Constant (.str x) j pos) (tC (.str x)):=fun _ _ _ H _ I h=>Calls.Constant_str ⟨.str x,H,I.tok _,⟨_,rfl⟩,h⟩
noncomputable def Gl (X:Cx) (x:Str):Prop:=X.env.kindOf x=some .globalImplicit
theorem qM {E:Value→Shared→Prop}{pins:List (Addr × Obj)}{s:Shared}{σ:St}{H:Hp}{x:Str}{u:Value}{pos:Pos}{Q:Value→Shared→Prop}(I:Inv X pins σ H s)(hg:Gl X x)(hm:X.mg x=some u)(h:Q u s)
  (hd:(x == ("__debug__" : Str))=false:=by decide):wpAny (model X.prog X.w) X.A (eval (.Name x pos) X.env) Q E s:=
 Calls.Name_function_global I.ok.kind hg (Calls.loadGlobal_global (by rw [I.ok.glob];exact I.mod.glob.keeps I.bk) hm h) hd
theorem lM {E:Value→Shared→Prop}{pins:List (Addr × Obj)}{s:Shared}{σ:St}{H:Hp}{x:Str}{u:Value}{pos:Pos}{Q:Value→Shared→Prop}(I:Inv X pins σ H s)(hg:Gl X x)(hm:X.mg x=none)(hv:bootBuiltins x=some u)(h:Q u s)
  (hn:x≠"__name__":=by decide) (hd:(x == ("__debug__" : Str))=false:=by decide):wpAny (model X.prog X.w) X.A (eval (.Name x pos) X.env) Q E s:=by
 obtain ⟨mb,h1,h2⟩:=I.mod.blt
 exact Calls.Name_function_global I.ok.kind hg (Calls.loadGlobal_builtin (by rw [I.ok.glob];exact I.mod.glob.keeps I.bk) hm (by rw [I.ok.blt];exact h1.keeps I.bk) ((h2 x hn).trans hv) h) hd
theorem fL {x:Str}{v:V}{u:Value}{pos:Pos}(hg:Gl X x)(hm:X.mg x=some u)(r:RelV v u)(hd:(x == ("__debug__" : Str))=false:=by decide):PE X (.Name x pos) (tC v):=
 fun _ _ _ H _ I h=>qM I hg hm ⟨v,H,I,r,h⟩ hd
theorem hZ {x:Str}{v:V}{u:Value}{pos:Pos}(hg:Gl X x)(hm:X.mg x=none)(hv:bootBuiltins x=some u)(r:RelV v u)(hn:x≠"__name__":=by decide)(hd:(x == ("__debug__" : Str))=false:=by decide):PE X (.Name x pos) (tC v):=
 fun _ _ _ H _ I h=>lM I hg hm hv ⟨v,H,I,r,h⟩ hn hd
variable {a b:Expr}{ta tb:TE}{pos:Pos}
noncomputable def tB (t:TE):TT:=fun σ H Q=>t σ H fun x H1=>∃ c,x = .bl c∧Q c H1
theorem fV {e:Expr}{t:TE}(h:PE X e t)(he:∀ whole,isTrue e X.env whole=(do let v ← whole;standAt e.pos;holding [v] (truthy v)):=by intro _;rfl):PT X e (tB t):=by
 intro pins s σ H Q I hw
 refine isTrue_plain (thn (h pins s σ H _ I hw) fun v s1 ⟨x,H1,I1,r1,q1⟩=>?_) (he _)
 obtain ⟨d,rfl,q⟩:=q1
 cases r1
 exact wpAny_truthy_bool ⟨H1,I1,q⟩
variable {tA tB':TT}{rest:List Expr}
noncomputable def yZ (t u:TT):TT:=fun σ H Q=>t σ H fun c H1=>if c=true then u σ H1 Q else Q false H1
noncomputable def tOr (t u:TT):TT:=fun σ H Q=>t σ H fun c H1=>if c=true then Q true H1 else u σ H1 Q
noncomputable def qZ (t:TT):TT:=fun σ H Q=>t σ H fun c H1=>Q (!c) H1
theorem uY (ha:PT X a tA):PW X (.BoolOp .And [a] pos) tA:=by
 intro wh pins s σ H Q I h
 refine isTrue_and (thn (ha pins s σ H Q I h) fun c s1 e=>?_)
 cases c with
 | true=>exact isTrue_and_nil e
 | false=>exact e
theorem nM (ha:PT X a tA):PW X (.BoolOp .Or [a] pos) tA:=by
 intro wh pins s σ H Q I h
 refine isTrue_or (thn (ha pins s σ H Q I h) fun c s1 e=>?_)
 cases c with
 | false=>exact isTrue_or_nil e
 | true=>exact e
theorem wX (ha:PT X a tA)(hb:PW X (.BoolOp .And (b :: rest) pos) tB'):PW X (.BoolOp .And (a :: b :: rest) pos) (yZ tA tB'):=by
 intro wh pins s σ H Q I h
 refine isTrue_and (thn (ha pins s σ H _ I h) fun c s1 ⟨H1,I1,q1⟩=>?_)
 cases c with
 | true=>exact hb wh pins s1 σ H1 Q I1 q1
 | false=>exact ⟨H1,I1,q1⟩
theorem pB (ha:PT X a tA)(hb:PW X (.BoolOp .Or (b :: rest) pos) tB'):PW X (.BoolOp .Or (a :: b :: rest) pos) (tOr tA tB'):=by
 intro wh pins s σ H Q I h
 refine isTrue_or (thn (ha pins s σ H _ I h) fun c s1 ⟨H1,I1,q1⟩=>?_)
 cases c with
 | true=>exact ⟨H1,I1,q1⟩
 | false=>exact hb wh pins s1 σ H1 Q I1 q1
theorem eJ (ha:PT X a tA):PT X (.UnaryOp .Not a pos) (qZ tA):=by
 intro pins s σ H Q I h
 exact isTrue_not (ha pins s σ H (fun c H1=>Q (!c) H1) I h)
noncomputable def lC (ta tb:TE):TE:=fun σ H Q=>ta σ H fun x H1=>∃ c,x = .bl c∧if c=true then tb σ H1 Q else Q (.bl false) H1
noncomputable def yV (ta tb:TE):TE:=fun σ H Q=>ta σ H fun x H1=>∃ c,x = .bl c∧if c=true then Q (.bl true) H1 else tb σ H1 Q
noncomputable def wQ (ta:TE):TE:=fun σ H Q=>ta σ H fun x H1=>∃ c,x = .bl c∧Q (.bl (!c)) H1
theorem jF {op}{t:TE}(h:PE X a t):PE X (.BoolOp op [a] pos) t:=fun pins s σ H Q I hw=>BoolOp_one (h pins s σ H Q I hw)
theorem gQ (ha:PE X a ta)(hb:PE X (.BoolOp .And (b :: rest) pos) tb):PE X (.BoolOp .And (a :: b :: rest) pos) (lC ta tb):=by
 intro pins s σ H Q I h
 refine BoolOp_and (thn (ha pins s σ H _ I h) fun v s1 ⟨x,H1,I1,r1,q1⟩=>?_)
 obtain ⟨c,rfl,q1⟩:=q1
 cases r1
 refine wpAny_truthy_bool ?_
 cases c with
 | true=>exact hb pins s1 σ H1 Q I1 q1
 | false=>exact ⟨.bl false,H1,I1,rfl,q1⟩
theorem yI (ha:PE X a ta)(hb:PE X (.BoolOp .Or (b :: rest) pos) tb):PE X (.BoolOp .Or (a :: b :: rest) pos) (yV ta tb):=by
 intro pins s σ H Q I h
 refine BoolOp_or (thn (ha pins s σ H _ I h) fun v s1 ⟨x,H1,I1,r1,q1⟩=>?_)
 obtain ⟨c,rfl,q1⟩:=q1
 cases r1
 refine wpAny_truthy_bool ?_
 cases c with
 | false=>exact hb pins s1 σ H1 Q I1 q1
 | true=>exact ⟨.bl true,H1,I1,rfl,q1⟩
theorem wI (ha:PE X a ta):PE X (.UnaryOp .Not a pos) (wQ ta):=by
 intro pins s σ H Q I h
 refine UnaryOp_ (thn (ha pins s σ H _ I h) fun v s1 ⟨x,H1,I1,r1,q1⟩=>?_)
 obtain ⟨c,rfl,q1⟩:=q1
 cases r1
 exact not_of (wpAny_truthy_bool ⟨.bl (!c),H1,I1,rfl,q1⟩)
noncomputable def tIf (t:TT) (ta tb:TE):TE:=fun σ H Q=>t σ H fun c H1=>if c=true then ta σ H1 Q else tb σ H1 Q
theorem nL {c:Expr}(hc:PT X c tA)(ha:PE X a ta)(hb:PE X b tb):PE X (.IfExp c a b pos) (tIf tA ta tb):=by
 intro pins s σ H Q I h
 refine wpAny_IfExp (thn (hc pins s σ H _ I h) fun d s1 ⟨H1,I1,q1⟩=>?_)
 cases d with
 | true=>exact ha pins s1 σ H1 Q I1 q1
 | false=>exact hb pins s1 σ H1 Q I1 q1
end
end L2
namespace L2
open PySem PySem.Spec PyProof.Rows
noncomputable def SqL (K:PySem.W.Frag) (H:Hp) (a:Addr) (xs:List V):Prop:=
 Rd H a (.lst xs) ∨
  ∃ (o:Obj) (its:Array Value) (n:Nat),K.lookup a=some o∧o.cls = .type "list"∧o.dict=none∧o.data = .seq its n∧its.size≤sizeLine∧Vals xs its.toList
noncomputable def SqT (K:PySem.W.Frag) (H:Hp) (a:Addr) (xs:List V):Prop:=
 Rd H a (.tup xs) ∨
  ∃ (o:Obj) (its:Array Value) (n:Nat),K.lookup a=some o∧o.cls = .type "tuple"∧o.dict=none∧o.data = .seq its n∧its.size≤sizeLine∧Vals xs its.toList
noncomputable def zO:Value→Option V
 | .none=>some .non
 | .bool b=>some (.bl b)
 | .int i _=>some (.int i)
 | .str x _=>some (.str x)
 | .bytes b _=>some (.byt b)
 | .float b _=>some (.flt b)
 | .ref a=>some (.ref a)
 | .type n=>some (.ty n)
 | _=>none
theorem RelV.abs {x:V}{u:Value}(r:RelV x u):zO u=some x:=by
 cases x with
 | non=>cases r;rfl
 | bl _=>cases r;rfl
 | int _=>obtain ⟨t,rfl⟩:=r;rfl
 | str _=>obtain ⟨t,rfl⟩:=r;rfl
 | byt _=>obtain ⟨t,rfl⟩:=r;rfl
 | flt _=>obtain ⟨t,rfl⟩:=r;rfl
 | ref _=>cases r;rfl
 | ty _=>cases r;rfl
theorem RelV.inj {x y:V}{u:Value}(r:RelV x u)(q:RelV y u):x=y:=Option.some.inj (r.abs.symm.trans q.abs)
theorem Vals.inj:∀ {xs ys:List V} {us:List Value},Vals xs us→Vals ys us→xs=ys
 | _,_,_, .nil, .nil=>rfl
 | _,_,_, .cons r t, .cons r' t'=>by rw [r.inj r',Vals.inj t t']
section
variable {X:Cx}{pins:List (Addr × Obj)}{σ:St}{H:Hp}{s:Shared}{a:Addr}{xs ys:List V}
theorem SqL.of {K:PySem.W.Frag}(h:H a=some (.lst xs)):SqL K H a xs := .inl (.inl h)
theorem SqT.of {K:PySem.W.Frag}(h:H a=some (.tup xs)):SqT K H a xs := .inl (.inl h)
theorem Inv.list (I:Inv X pins σ H s)(h:SqL X.K H a xs):∃ its:List Value,Vals xs its∧PlainL s.heap a its.toArray∧xs.length≤sizeLine:=by
 rcases h with h | ⟨o,its,n,hk,hc,hd,hs,hz,r⟩
 ·obtain ⟨z,its,n,r,e⟩:=h.ok I.hok
  exact ⟨its,r,⟨_,n,e,rfl,rfl,rfl⟩,z⟩
 ·refine ⟨its.toList,r,⟨o,n,I.kIn a o hk,hc,hd,by simpa using hs⟩,?_⟩
  have e:=r.length
  simp only [Array.length_toList] at e
  omega
theorem Inv.tuple (I:Inv X pins σ H s)(h:SqT X.K H a xs):∃ its:List Value,Vals xs its∧IsTup s.heap a its.toArray∧xs.length≤sizeLine:=by
 rcases h with h | ⟨o,its,n,hk,hc,_,hs,hz,r⟩
 ·obtain ⟨z,its,r,p⟩:=h.ok I.hok
  exact ⟨its,r,p.tup,z⟩
 ·refine ⟨its.toList,r,⟨o,I.kIn a o hk,hc,n,by simpa using hs⟩,?_⟩
  have e:=r.length
  simp only [Array.length_toList] at e
  omega
theorem Inv.list_inj (I:Inv X pins σ H s)(h:SqL X.K H a xs)(h':SqL X.K H a ys):xs=ys:=by
 obtain ⟨its,r,⟨o,n,e,_,_,d⟩,_⟩:=I.list h
 obtain ⟨its',r',⟨o',n',e',_,_,d'⟩,_⟩:=I.list h'
 rw [e] at e';cases e'
 rw [d] at d'
 injection d' with d1 _
 have:its=its':=by simpa using congrArg Array.toList d1
 subst this
 exact r.inj r'
theorem Inv.tuple_inj (I:Inv X pins σ H s)(h:SqT X.K H a xs)(h':SqT X.K H a ys):xs=ys:=by
 obtain ⟨its,r,⟨o,e,_,n,d⟩,_⟩:=I.tuple h
 obtain ⟨its',r',⟨o',e',_,n',d'⟩,_⟩:=I.tuple h'
 rw [e] at e';cases e'
 rw [d] at d'
 injection d' with d1 _
 have:its=its':=by simpa using congrArg Array.toList d1
 subst this
 exact r.inj r'
end
noncomputable abbrev Cx.wish (X:Cx) (E:Value→Shared→Prop):Cx:={ X with xe:=E }
noncomputable abbrev Cx.nox (X:Cx):Cx:=X.wish fun _ _=>False
theorem Cx.Ok.wish {X:Cx}(ok:X.Ok)(E:Value→Shared→Prop):(X.wish E).Ok:=
 ⟨ok.mod,ok.kind,ok.glob,ok.blt,ok.above,ok.inj,ok.has,ok.cab,ok.hd,ok.frames,ok.stk,ok.exf,ok.bs,ok.bsz,ok.noex,ok.exfs,ok.funs,ok.frf⟩
theorem Cx.Ok.unwish {X:Cx}{E:Value→Shared→Prop}(ok:(X.wish E).Ok):X.Ok:=
 ⟨ok.mod,ok.kind,ok.glob,ok.blt,ok.above,ok.inj,ok.has,ok.cab,ok.hd,ok.frames,ok.stk,ok.exf,ok.bs,ok.bsz,ok.noex,ok.exfs,ok.funs,ok.frf⟩
section
variable {X:Cx}{pins:List (Addr × Obj)}{σ:St}{H:Hp}{s:Shared}{E:Value→Shared→Prop}
theorem Inv.wish (I:Inv X pins σ H s)(E:Value→Shared→Prop):Inv (X.wish E) pins σ H s:=⟨I.ok.wish E,I.os,I.bare,I.base,I.loc,I.cell,I.free,I.freeC,I.pin,I.hok,I.len⟩
theorem Inv.unwish (I:Inv (X.wish E) pins σ H s):Inv X pins σ H s:=⟨I.ok.unwish,I.os,I.bare,I.base,I.loc,I.cell,I.free,I.freeC,I.pin,I.hok,I.len⟩
theorem SP.unwish {D:kA}{f:Flow}{s':Shared}(h:SP (X.wish E) pins D f s'):SP X pins D f s':=by
 cases f with
 | next=>obtain ⟨σ',H',I,q⟩:=h;exact ⟨σ',H',I.unwish,q⟩
 | brk=>obtain ⟨σ',H',I,q⟩:=h;exact ⟨σ',H',I.unwish,q⟩
 | cont=>obtain ⟨σ',H',I,q⟩:=h;exact ⟨σ',H',I.unwish,q⟩
 | ret u=>obtain ⟨v,σ',H',I,r,q⟩:=h;exact ⟨v,σ',H',I.unwish,r,q⟩
theorem PSs.nox {st:List Stmt}{t:TS}(h:PSs X.nox st t):PSs X st t:=fun pins s σ H D I hw=>
 wpAny_mono (h pins s σ H D (I.wish _) hw) (fun _ _ q=>q.unwish) fun _ _ z=>False.elim z
end
section
variable {X:Cx}{st:Stmt}{rest:List Stmt}{t u:TS}{e:Expr}{te:TE}{pos:Pos}
noncomputable def aM:TS:=fun D σ H=>D.nx σ H
noncomputable def aU (t u:TS):TS:=fun D σ H=>t { D with nx:=u D } σ H
theorem aF:PSs X [] aM:=fun _ _ σ H _ I h=>wpAny_execs_nil ⟨σ,H,I,h⟩
theorem aA (h1:PS X st t)(h2:PSs X rest u):PSs X (st :: rest) (aU t u):=by
 intro pins s σ H D I h
 refine wpAny_execs_cons (thn (h1 pins s σ H { D with nx:=u D } I h) fun f s1 q=>?_)
 cases f with
 | next=>
  obtain ⟨σ',H',I',q⟩:=q
  exact h2 pins s1 σ' H' D I' q
 | ret v=>exact q
 | brk=>exact q
 | cont=>exact q
theorem Inv.quiet {pins:List (Addr × Obj)}{σ:St}{H:Hp}{s:Shared}(I:Inv X pins σ H s):interactive X.env=false:=by simp [interactive,I.ok.kind]
noncomputable def qT (te:TE):TS:=fun D σ H=>te σ H fun _ H1=>D.nx σ H1
theorem jP (he:PE X e te)(hs:swapsWith e none pos.line X.env=pure false:=by rfl):PS X (.Expr e pos) (qT te):=by
 intro pins s σ H D I h
 exact wpAny_Expr_any (thn (he pins s σ H _ I h) fun v s1 ⟨x,H1,I1,r1,q1⟩=>⟨σ,H1,I1,q1⟩) I.quiet hs
noncomputable def gD (te:TE):TS:=fun D σ H=>te σ H D.rt
theorem bE (he:PE X e te):PS X (.Return (some e) pos) (gD te):=by
 intro pins s σ H D I h
 exact wpAny_Return_some (thn (he pins s σ H _ I h) fun v s1 ⟨x,H1,I1,r1,q1⟩=>⟨x,σ,H1,I1,r1,q1⟩)
noncomputable def lD (c:TT) (t u:TS):TS:=fun D σ H=>c σ H fun b H1=>if b=true then t D σ H1 else u D σ H1
theorem eG {c:Expr}{a b:List Stmt}{tc:TT}(hc:PT X c tc)(ha:PSs X a t)(hb:PSs X b u):PS X (.If c a b pos) (lD tc t u):=by
 intro pins s σ H D I h
 refine wpAny_If (thn (hc pins s σ H _ I h) fun d s1 ⟨H1,I1,q1⟩=>?_)
 cases d with
 | true=>exact ha pins s1 σ H1 D I1 q1
 | false=>exact hb pins s1 σ H1 D I1 q1
noncomputable def qC:TS:=fun _ _ _=>False
theorem nQ:PS X st qC:=fun _ _ _ _ _ _ h=>h.elim
end
noncomputable abbrev TG:=V→St→Hp→(St→Hp→Prop)→Prop
noncomputable abbrev TGs:=List V→St→Hp→(St→Hp→Prop)→Prop
noncomputable def PG (X:Cx) (target:Expr) (t:TG):Prop:=
 ∀ (pins:List (Addr × Obj)) (s:Shared) (σ:St) (H:Hp) (v:V) (u:Value) (Q:St→Hp→Prop),Inv X pins σ H s→RelV v u→t v σ H Q →
  wpAny (model X.prog X.w) X.A (assign target X.env u) (fun _ s'=>∃ σ' H',Inv X pins σ' H' s'∧Q σ' H') X.xe s
noncomputable def PGs (X:Cx) (ts:List Expr) (t:TGs):Prop:=
 ∀ (pins:List (Addr × Obj)) (s:Shared) (σ:St) (H:Hp) (vs:List V) (us:List Value) (Q:St→Hp→Prop),Inv X pins σ H s→Vals vs us→t vs σ H Q →
  wpAny (model X.prog X.w) X.A (assignInOrder ((assignEach ts X.env).map (·.2)) us) (fun _ s'=>∃ σ' H',Inv X pins σ' H' s'∧Q σ' H') X.xe s
noncomputable abbrev yM:=V→V→V→Hp→(Hp→Prop)→Prop
noncomputable def yQ (X:Cx) (t:yM):Prop:=
 ∀ (pins:List (Addr × Obj)) (s:Shared) (σ:St) (H:Hp) (o i v:V) (ov iv u:Value) (Q:Hp→Prop),Inv X pins σ H s→RelV o ov→RelV i iv→RelV v u→t o i v H Q →
  wpAny (model X.prog X.w) X.A (setItem ov iv u) (fun _ s'=>∃ H',Inv X pins σ H' s'∧Q H') X.xe s
section
variable {X:Cx}{pos:Pos}
noncomputable def aO (i:Nat):TG:=fun v σ H Q=>Q (σ.set i (some v)) H
theorem bG {i:Nat}{x:Str}(hN:X.N.Nodup)(hi:X.N[i]?=some x)(hx:Loc X.env.scope x)(hf:X.fn x=true∨X.env.scope.names.lookup x=some .local:=by first | exact .inl rfl | exact .inr rfl | assumption):PG X (.Name x pos) (aO i):=by
 intro pins s σ H v u Q I r h
 exact wpAny_assign_Name (nN I hN hi hx r (fun s' I'=>⟨_,H,I',h⟩) hf)
noncomputable def xK:TGs:=fun vs σ H Q=>vs=[]∧Q σ H
noncomputable def mI (t:TG) (u:TGs):TGs:=fun vs σ H Q=>∃ v r,vs=v :: r∧t v σ H fun σ' H'=>u r σ' H' Q
theorem qJ:PGs X [] xK:=by
 intro pins s σ H vs us Q I r h
 obtain ⟨e,h⟩:=h
 subst e
 cases r
 exact assignInOrder_nil ⟨σ,H,I,h⟩
theorem gL {e:Expr}{es:List Expr}{t:TG}{u:TGs}(h1:PG X e t)(h2:PGs X es u)
  (hs:(assignEach (e :: es) X.env).map (·.2)=assign e X.env :: (assignEach es X.env).map (·.2):=by rfl):PGs X (e :: es) (mI t u):=by
 intro pins s σ H vs us Q I r h
 obtain ⟨v,vr,e1,h⟩:=h
 subst e1
 cases r with
 | cons r rr=>
  rw [hs]
  refine assignInOrder_cons (thn (h1 pins s σ H _ _ _ I r h) fun _ s1 ⟨σ1,H1,I1,q1⟩=>?_)
  exact h2 pins s1 σ1 H1 _ _ Q I1 rr q1
noncomputable def vX (K:PySem.W.Frag) (n:Nat) (t:TGs):TG:=fun v σ H Q=>∃ a xs,v = .ref a∧SqT K H a xs∧xs.length=n∧t xs σ H Q
theorem vR {es:List Expr}{k:Nat}{t:TGs}{n:Nat}(hc:X.calm=true)(h:PGs X es t)
  (hn:(assignEach es X.env).length=n:=by rfl) (hst:(assignEach es X.env).findIdx? (·.1)=none:=by rfl):PG X (.Tuple es k pos) (vX X.K n t):=by
 intro pins s σ H v u Q I r hw
 obtain ⟨a,xs,e1,hq,hl,hw⟩:=hw
 subst e1
 cases r
 obtain ⟨its,rv,ht,hz⟩:=I.tuple hq
 refine assign_Tuple_tuple (I.ok.hd hc) ht (by simp [hn,← hl,rv.length]) hst fun h' hx=>?_
 have I1:Inv X pins σ H { s with heap:=h' }:=I.kept (t':=s.toks) fun b o e=>hx b o (Nat.ne_of_lt (Heap.lt_size e)) e
 exact h pins _ σ H xs _ Q I1 (by simpa using rv) hw
noncomputable def qV (to ti:TE) (t:yM):TG:=fun v σ H Q=>to σ H fun o H1=>ti σ H1 fun i H2=>t o i v H2 fun H3=>Q σ H3
theorem kW {o i:Expr}{to ti:TE}{t:yM}(ho:PE X o to)(hi:PE X i ti)(hs:yQ X t)
  (ha:∀ v,assign (.Subscript o i pos) X.env v=(do
   let ov ← holding [v] (eval o X.env)
   let iv ← holding [v,ov] (eval i X.env)
   standAt pos
   holding [v,ov,iv] (setItem ov iv v)
   release [v,ov,iv] []):=by intro _;rfl):PG X (.Subscript o i pos) (qV to ti t):=by
 intro pins s σ H v u Q I r h
 rw [ha]
 refine wpAny_bind (wpAny_holding (thn (ho pins s σ H _ I h) fun ov s1 ⟨x,H1,I1,r1,q1⟩=>?_))
 refine wpAny_bind (wpAny_holding (thn (hi pins s1 σ H1 _ I1 q1) fun iv s2 ⟨y,H2,I2,r2,q2⟩=>?_))
 refine wpAny_bind (wpAny_standAt (wpAny_bind (wpAny_holding (thn (hs pins s2 σ H2 x y v ov iv u _ I2 r1 r2 r q2) fun _ s3 ⟨H3,I3,q3⟩=>?_))))
 exact wpAny_release ⟨σ,H3,I3,q3⟩
noncomputable def cY (te:TE) (g:TG):TS:=fun D σ H=>te σ H fun x H1=>g x σ H1 D.nx
theorem kR {tg e:Expr}{te:TE}{g:TG}(he:PE X e te)(hg:PG X tg g)(hs:swapsWithSole [tg] e pos.line X.env=pure false:=by rfl)(hw:swappedStores [tg] e X.env=pure none:=by rfl)
  (h1:(assignEach [tg] X.env).map (·.2)=[assign tg X.env]:=by rfl):PS X (.Assign [tg] e pos) (cY te g):=by
 intro pins s σ H D I h
 refine wpAny_Assign_stores (thn (he pins s σ H _ I h) fun v s1 ⟨x,H1,I1,r1,q1⟩=>?_) hs hw
 rw [h1]
 exact thn (hg pins s1 σ H1 x v _ I1 r1 q1) fun _ s2 q=>q
theorem bF {i:Nat}{x:Str}{e:Expr}{te:TE}{pos':Pos}(hN:X.N.Nodup)(hi:X.N[i]?=some x)(hx:Loc X.env.scope x)(he:PE X e te)(hs:swapsWith e (some (.Name x pos')) pos.line X.env=pure false:=by rfl)(hf:X.fn x=true∨X.env.scope.names.lookup x=some .local:=by first | exact .inl rfl | exact .inr rfl | assumption) :
  PS X (.Assign [.Name x pos'] e pos) (cY te (aO i)):=by
 intro pins s σ H D I h
 refine wpAny_Assign_Name (thn (he pins s σ H _ I h) fun v s1 ⟨y,H1,I1,r1,q1⟩=>?_) hs
 exact nN I1 hN hi hx r1 (fun s2 I2=>⟨_,H1,I2,q1⟩) hf
end
section
variable {X:Cx}{pos:Pos}
end
structure It where
 go:Nat→Hp→Prop
 yld:Nat→Hp→V→Hp→Prop
 stop:Nat→Hp→Prop
noncomputable def mG (X:Cx) (pins:List (Addr × Obj)) (H:Hp) (b:Addr):Prop:=
 H b=none∧b≠X.env.locals∧b∉X.fs∧(b∈X.ex∨X.s₀.heap.objs.size≤b)∧(∀ x c,X.env.cells.lookup x=some c→c≠b)∧∀ p∈X.pn++pins,p.1≠b
theorem Inv.fpOk {X:Cx}{pins:List (Addr × Obj)}{σ:St}{H H':Hp}{s:Shared}{b:Addr}(I:Inv X pins σ H s)(hb:s.heap.objs.size≤b)(hn:H' b=none):mG X pins H' b:=by
 refine ⟨hn,Nat.ne_of_gt (Nat.lt_of_lt_of_le I.lt hb),I.nofs hb, .inr (Nat.le_trans I.sz hb),fun x c e z=>?_,fun p hp z=>?_⟩
 ·obtain ⟨v,q⟩:=I.cell x c e
  exact absurd (Nat.lt_of_lt_of_le q.lt (by rw [z];exact hb)) (Nat.lt_irrefl _)
 ·exact absurd (Nat.lt_of_lt_of_le (Heap.lt_size (I.pin p hp).1) (by rw [z];exact hb)) (Nat.lt_irrefl _)
structure vF (P:Program)(w:World)(K:PySem.W.Frag)(tg:Expr)(J:It)(fp:List Addr)(it:Addr)(tn:Nat→Heap→Prop):Prop where
 mem:it∈fp
 obj:∀ i h,tn i h→∀ b∈fp,∃ o,h.get? b=some o∧∀ v,o.data ≠ .cell v
 keep:∀ i h h',tn i h→(∀ b∈fp,∀ o,h.get? b=some o→h'.get? b=some o)→tn i h'
 item:∀ (X:Cx),X.prog=P→X.w=w→X.K=K→X.calm=true→∀ (i:Nat) (pins:List (Addr × Obj)) (s:Shared) (σ:St) (H:Hp) (E:Value→Shared→Prop),Inv X pins σ H s→(∀ b∈fp,mG X pins H b)→tn i s.heap→J.go i H →
  wpAny (model P w) X.A (pyNext (.ref it)) (fun r s1=>∃ u,r=some u ∧
   wpAny (model P w) X.A (letOwnedTupleGo tg (.ref it) u) (fun _ s2=>∃ x H',Inv X pins σ H' s2∧RelV x u∧J.yld i H x H'∧tn (i+1) s2.heap∧∀ b∈fp,H' b=none) E s1) E s
 done:∀ (X:Cx),X.prog=P→X.w=w→X.K=K→X.calm=true→∀ (i:Nat) (pins:List (Addr × Obj)) (s:Shared) (σ:St) (H:Hp) (E:Value→Shared→Prop),Inv X pins σ H s→(∀ b∈fp,mG X pins H b)→tn i s.heap→J.stop i H →
  wpAny (model P w) X.A (pyNext (.ref it)) (fun r s1=>r=none∧Inv X pins σ H s1) E s
 self:∀ (A:Around) (i:Nat) (s:Shared) (Q:Value→Shared→Prop) (E:Value→Shared→Prop),tn i s.heap→Q (.ref it) s→wpAny (model P w) A (pyIter (.ref it)) Q E s
noncomputable abbrev TI:=St→Hp→(It→Hp→Prop)→Prop
noncomputable def PIE (X:Cx) (pins:List (Addr × Obj)) (σ:St) (tg:Expr) (R:It→Hp→Prop) (itv:Value) (s2:Shared):Prop:=
 ∃ (it:Addr) (fp:List Addr) (tn:Nat→Heap→Prop) (J:It) (H':Hp),itv = .ref it∧Inv X pins σ H' s2∧vF X.prog X.w X.K tg J fp it tn∧tn 0 s2.heap∧(∀ b∈fp,mG X pins H' b)∧R J H'
noncomputable def PI (X:Cx) (tg iter:Expr) (wi:TI):Prop:=
 ∀ (pins:List (Addr × Obj)) (s:Shared) (σ:St) (H:Hp) (R:It→Hp→Prop),Inv X pins σ H s→wi σ H R →
  wpAny (model X.prog X.w) X.A (eval iter X.env) (fun v s1=>wpAny (model X.prog X.w) X.A (pyIter v) (PIE X pins σ tg R) X.xe s1) X.xe s
theorem vE {M : Model} {A : Around} {E : Value → Shared → Prop} {s : Shared} {tg : Expr} {it : Addr} {u : Value} {o : Obj} {n : String} {vs : Array Value} {Q : Unit → Shared → Prop} (ho : s.heap.get? it = some o) (hc : o.cls = .type n) (hd : o.data = .fields vs)
    (hn : ["enumerate", "zip", "dict_itemiterator", "dict_reverseitemiterator", "odict_iterator", "itertools.zip_longest", "itertools.pairwise"].contains n = false) (hQ : Q () s) : wpAny M A (letOwnedTupleGo tg (.ref it) u) Q E s := by
  unfold letOwnedTupleGo
  cases tg <;> first
    | exact wpAny_pure hQ
    | (cases u <;> first
        | exact wpAny_pure hQ
        | (refine wpAny_bind (wpAny_load ho ?_)
           rw [hc, hd]
           show wpAny M A (if (["enumerate", "zip", "dict_itemiterator", "dict_reverseitemiterator", "odict_iterator", "itertools.zip_longest", "itertools.pairwise"].contains n && vs[0]? == some (rawInt _)) = true then _ else _) Q E s
           rw [if_neg (by intro h; rw [hn, Bool.false_and] at h; cases h)]
           exact wpAny_pure hQ))
noncomputable def Itl (K:PySem.W.Frag) (a:Addr):It:=
 ⟨fun i H=>∃ xs x,SqL K H a xs∧xs[i]?=some x,fun i H x H'=>H'=H∧∀ xs,SqL K H a xs→xs[i]?=some x,fun i H=>∃ xs,SqL K H a xs∧xs.length≤i⟩
noncomputable def Itt (K:PySem.W.Frag) (a:Addr):It:=
 ⟨fun i H=>∃ xs x,SqT K H a xs∧xs[i]?=some x,fun i H x H'=>H'=H∧∀ xs,SqT K H a xs→xs[i]?=some x,fun i H=>∃ xs,SqT K H a xs∧xs.length≤i⟩
noncomputable def Itr (lo:Int) (n:Nat):It:=⟨fun i _=>i<n,fun i H x H'=>H'=H∧x = .int (lo+i),fun i _=>n≤i⟩
theorem pA {P:Program}{w:World}{K:PySem.W.Frag}{tg:Expr}(a it:Addr):vF P w K tg (Itl K a) [it] it (fun i h=>h.IsListIter it a i) where
 mem:=by simp
 obj:=fun i h st b hb=>by
  have e:b=it:=by simpa using hb
  subst e
  obtain ⟨o,e,c,d⟩:=st
  exact ⟨o,e,fun v z=>by rw [d] at z;cases z⟩
 keep:=fun i h h' st k=>st.at fun o e=>k it (by simp) o e
 item:=by
  intro X hP hw hK hc i pins s σ H E I hf st hg
  subst hP hw hK
  obtain ⟨xs,x,hq,hx⟩:=hg
  obtain ⟨its,rv,p,hz⟩:=I.list hq
  obtain ⟨u,hu,ru⟩:=rv.get hx
  obtain ⟨f0,f1,f2,f3,f4,f5⟩:=hf it (by simp)
  refine wpAny_pyNext_list_item st p.isList (x:=u) (by simpa using hu) fun h' st' sb=>?_
  have I1:Inv X pins σ H { s with heap:=h' }:=I.turned (t':=s.toks) (fun b o hb e=>(sb.2 b hb).trans e) f0 f1 f3 f4 f5
  obtain ⟨o,e,c,d⟩:=id st'
  exact ⟨u,rfl,vE (s:={ s with heap:=h' }) e c d (by decide) ⟨x,H,I1,ru,⟨rfl,fun ys hy=>by rw [I.list_inj hy hq];exact hx⟩,st',fun b hb=>(hf b hb).1⟩⟩
 done:=by
  intro X hP hw hK hc i pins s σ H E I hf st hg
  subst hP hw hK
  obtain ⟨xs,hq,hx⟩:=hg
  obtain ⟨its,rv,p,hz⟩:=I.list hq
  obtain ⟨f0,f1,f2,f3,f4,f5⟩:=hf it (by simp)
  have hl:=rv.length
  exact wpAny_pyNext_list_end (I.ok.hd hc) st p.isList (by simp;omega) fun h' eb=>⟨rfl,I.turned (t':=s.toks) (fun b o hb e=>eb b o hb e) f0 f1 f3 f4 f5⟩
 self:=fun _ _ _ _ _ st h=>wpAny_pyIter_listiter st h
theorem nT {P:Program}{w:World}{K:PySem.W.Frag}{tg:Expr}(a it:Addr):vF P w K tg (Itt K a) [it] it (fun i h=>h.IsTupleIter it a i) where
 mem:=by simp
 obj:=fun i h st b hb=>by
  have e:b=it:=by simpa using hb
  subst e
  obtain ⟨o,e,c,d⟩:=st
  exact ⟨o,e,fun v z=>by rw [d] at z;cases z⟩
 keep:=fun i h h' st k=>st.at fun o e=>k it (by simp) o e
 item:=by
  intro X hP hw hK hc i pins s σ H E I hf st hg
  subst hP hw hK
  obtain ⟨xs,x,hq,hx⟩:=hg
  obtain ⟨its,rv,p,hz⟩:=I.tuple hq
  obtain ⟨u,hu,ru⟩:=rv.get hx
  obtain ⟨f0,f1,f2,f3,f4,f5⟩:=hf it (by simp)
  refine wpAny_pyNext_tuple_item st (show s.heap.IsTuple a its.toArray from p) (x:=u) (by simpa using hu) fun h' st' sb=>?_
  have I1:Inv X pins σ H { s with heap:=h' }:=I.turned (t':=s.toks) (fun b o hb e=>(sb.2 b hb).trans e) f0 f1 f3 f4 f5
  obtain ⟨o,e,c,d⟩:=id st'
  exact ⟨u,rfl,vE (s:={ s with heap:=h' }) e c d (by decide) ⟨x,H,I1,ru,⟨rfl,fun ys hy=>by rw [I.tuple_inj hy hq];exact hx⟩,st',fun b hb=>(hf b hb).1⟩⟩
 done:=by
  intro X hP hw hK hc i pins s σ H E I hf st hg
  subst hP hw hK
  obtain ⟨xs,hq,hx⟩:=hg
  obtain ⟨its,rv,p,hz⟩:=I.tuple hq
  obtain ⟨f0,f1,f2,f3,f4,f5⟩:=hf it (by simp)
  have hl:=rv.length
  exact wpAny_pyNext_tuple_end (I.ok.hd hc) st (show s.heap.IsTuple a its.toArray from p) (by simp;omega) fun h' eb=>⟨rfl,I.turned (t':=s.toks) (fun b o hb e=>eb b o hb e) f0 f1 f3 f4 f5⟩
 self:=fun _ _ _ _ _ st h=>wpAny_pyIter_tupleiter st h
theorem oB {P:Program}{w:World}{K:PySem.W.Frag}{tg:Expr}(it:Addr)(lo:Int)(n:Nat):vF P w K tg (Itr lo n) [it] it (fun i h=>IsRangeIter h it (lo+(i:Nat)*1) ((n:Int) - (i:Nat)) 1) where
 mem:=by simp
 obj:=fun i h st b hb=>by
  have e:b=it:=by simpa using hb
  subst e
  exact ⟨_,st,fun v z=>by
   have z':Data.fields _=Data.cell v:=z
   cases z'⟩
 keep:=fun i h h' st k=>k it (by simp) _ st
 item:=by
  intro X hP hw hK hc i pins s σ H E I hf st hg
  subst hP hw hK
  obtain ⟨f0,f1,f2,f3,f4,f5⟩:=hf it (by simp)
  have W:=Walks.range (prog:=X.prog) (w:=X.w) (I.ok.hd hc) it lo 1 n
  refine W.item i s _ _ hg st fun v h' tk hv st' kk=>?_
  obtain ⟨t,rfl⟩:=hv
  have I1:Inv X pins σ H { s with heap:=h',toks:=tk }:=I.turned (fun b o hb e=>kk b o (by simpa using hb) e) f0 f1 f3 f4 f5
  refine ⟨_,rfl,vE (s:={ s with heap:=h',toks:=tk }) (n:="range_iterator") st' rfl rfl (by decide) ⟨.int (lo+i),H,I1,⟨t,?_⟩,⟨rfl,rfl⟩,st',fun b hb=>(hf b hb).1⟩⟩
  rw [Int.mul_one]
 done:=by
  intro X hP hw hK hc i pins s σ H E I hf st hg
  subst hP hw hK
  obtain ⟨f0,f1,f2,f3,f4,f5⟩:=hf it (by simp)
  exact wpAny_pyNext_range_end (I.ok.hd hc) st (by have:n≤i:=hg;omega) fun h' eb=>⟨rfl,I.turned (t':=s.toks) (fun b o hb e=>eb b o hb e) f0 f1 f3 f4 f5⟩
 self:=fun _ _ _ _ _ st h=>wpAny_pyIter_rangeiter st h
end L2
namespace L2
open PySem PySem.Spec PyProof.Rows
section
variable {X:Cx}{tg:Expr}
theorem sQ {pins:List (Addr × Obj)}{σ:St}{H:Hp}{s:Shared}{R:It→Hp→Prop}{E:Value→Shared→Prop}{lo hi:Int}{t u v:Tok}{tk:Nat}(I:Inv X pins σ H s)(h1:-(2 ^ 62)≤lo)(h2:lo<2 ^ 62)(h3:-(2 ^ 62)≤hi)(h4:hi<2 ^ 62)
  (q:R (Itr lo (hi - lo).toNat) H):wpAny (model X.prog X.w) X.A (pyIter (.ref s.heap.objs.size)) (PIE X pins σ tg R) E { s with heap:=s.heap.push { cls := .type "range",data := .fields #[.int lo t, .int hi u, .int 1 v] },toks:=tk }:=by
 refine wpAny_pyIter_range (IsRange.new ..) (small_one h1 h2 h3 h4) ?_
 have I1:Inv X pins σ H { s with heap:=s.heap.push { cls := .type "range",data := .fields #[.int lo t, .int hi u, .int 1 v] },toks:=tk }:=I.kept fun b o e=>Heap.get?_push_of_some _ e
 refine ⟨(s.heap.push { cls := .type "range",data := .fields #[.int lo t, .int hi u, .int 1 v] }).objs.size,[(s.heap.push { cls := .type "range",data := .fields #[.int lo t, .int hi u, .int 1 v] }).objs.size],_,_,H,rfl,
  I1.kept (t':=tk) fun b o e=>Heap.get?_push_of_some _ e,oB _ lo (hi - lo).toNat,?_,fun b hb=>?_,q⟩
 ·have e1:lo+((0:Nat):Int)*1=lo:=by simp
  have e2:(((hi - lo).toNat:Nat):Int) - ((0:Nat):Int)=Builtin.Range.rangeSize lo hi 1:=by rw [rangeSize_one];split <;> omega
  show IsRangeIter _ _ (lo+((0:Nat):Int)*1) ((((hi - lo).toNat:Nat):Int) - ((0:Nat):Int)) 1
  rw [e1,e2]
  exact Heap.get?_push_size _ rfl
 ·have e:b=(s.heap.push { cls := .type "range",data := .fields #[.int lo t, .int hi u, .int 1 v] }).objs.size:=by simpa using hb
  subst e
  exact I1.fpOk (Nat.le_refl _) (I1.hok.fresh (Nat.le_refl _))
noncomputable def mK (ta:TA):TI:=fun σ H R=>ta σ H fun vs H1=>∃ j:Int,vs=[.int j]∧-(2 ^ 62)≤j∧j<2 ^ 62∧R (Itr 0 j.toNat) H1
theorem cQ {a:Expr}{ta:TA}{p pos:Pos}(hg:Gl X "range")(hm:X.mg "range" = none)(ha:PA X [a] ta)(hs:starEach [a] X.env=[(false,eval a X.env)]:=by rfl):PI X tg (.Call (.Name "range" p) [a] [] pos) (mK ta):=by
 intro pins s σ H R I h
 refine Call_ (lM I hg hm boot_range (PyProof.Rows.callWith_type1 (thn (ha pos pins s σ H _ I h) fun us s1 ⟨vs,H1,I1,r1,q1⟩=>?_) hs rfl))
 obtain ⟨j,e,q1,q2,q⟩:=q1
 subst e
 cases r1 with
 | cons r rr=>
  cases rr
  obtain ⟨t,rfl⟩:=r
  exact call_range_1 (sQ I1 (by omega) (by omega) q1 q2 (by simpa using q))
noncomputable def vG (wi:TI) (g:TG) (tb:TS):TS:=fun D σ H=>wi σ H fun J H1=>∃ W:Nat→Nat→St→Hp→Prop,(∃ m,W 0 m σ H1)∧∀ i m σ H,W i m σ H →
 (J.stop i H∧D.nx σ H)∨(J.go i H∧∃ N:St→Hp→Prop,(∀ σ' H',N σ' H'→∃ m',m'<m∧W (i+1) m' σ' H')∧∀ x H',J.yld i H x H'→g x σ H' fun σ2 H2=>tb { D with nx:=N,ct:=N,bk:=D.nx } σ2 H2)
noncomputable def kM (fp:List Addr) (h:Heap):List (Addr × Obj):=fp.filterMap fun b=>(h.get? b).map fun o=>(b,o)
theorem dP {fp:List Addr}{h:Heap}{b:Addr}{o:Obj}(hb:b∈fp)(e:h.get? b=some o):(b,o)∈kM fp h:=List.mem_filterMap.mpr ⟨b,hb,by rw [e];rfl⟩
theorem qX {fp:List Addr}{h:Heap}{p:Addr × Obj}(hp:p∈kM fp h):p.1∈fp∧h.get? p.1=some p.2:=by
 obtain ⟨b,hb,e⟩:=List.mem_filterMap.mp hp
 cases q:h.get? b with
 | none=>rw [q] at e;cases e
 | some o=>
  rw [q] at e
  have e':(b,o)=p:=Option.some.inj e
  subst e'
  exact ⟨hb,q⟩
theorem Inv.pinned {pins:List (Addr × Obj)}{σ:St}{H:Hp}{s:Shared}{fp:List Addr}(I:Inv X pins σ H s)(hf:∀ b∈fp,mG X pins H b)(ho:∀ b∈fp,∃ o,s.heap.get? b=some o∧∀ v,o.data ≠ .cell v):Inv X (pins++kM fp s.heap) σ H s:=
 I.pins_of fun p hp=>(List.mem_append.mp hp).elim (fun z=>I.pin p (List.mem_append_right _ z)) fun z=>by
  obtain ⟨hb,e⟩:=qX z
  obtain ⟨f0,f1,f2,_⟩:=hf p.1 hb
  obtain ⟨o,e',d⟩:=ho p.1 hb
  rw [e] at e';cases e'
  exact ⟨e,f0,f1,f2,d⟩
theorem Inv.unpinned {pins pl:List (Addr × Obj)}{σ:St}{H:Hp}{s:Shared}(I:Inv X (pins++pl) σ H s):Inv X pins σ H s:=I.pins_of fun p hp=>I.pin p (List.mem_append_right _ (List.mem_append_left _ hp))
theorem lS {iter:Expr}{body:List Stmt}{wi:TI}{g:TG}{tb:TS}{pos:Pos}(hp:PassesOwn (model X.prog X.w) X.A X.env X.xe)(hc:X.calm=true)(hi:PI X tg iter wi)(hg:PG X tg g)(hb:PSs X body tb)
  (hs:∀ x,foldedSetIterable iter X.env x=pure x:=by intro _;rfl):PS X (.For tg iter body [] pos) (vG wi g tb):=by
 intro pins s σ H D I h
 refine wpAny_For (thn (hi pins s σ H _ I h) fun v s1 h1=>thn h1 fun itv s2 h2=>?_) hs
 obtain ⟨it,fp,tn,J,H2,e,I2,T,st2,f2,W,⟨m0,w0⟩,turn⟩:=h2
 subst e
 have stat:∀ {H':Hp},(∀ b∈fp,H' b=none)→∀ b∈fp,mG X pins H' b:=fun hn b hb=>⟨hn b hb,(f2 b hb).2⟩
 refine codeAny_forLoop_any (fun n s'=>∃ i σ' H',Inv X pins σ' H' s'∧tn i s'.heap∧(∀ b∈fp,H' b=none)∧W i n σ' H') ?_ m0 ⟨0,σ,H2,I2,st2,fun b hb=>(f2 b hb).1,w0⟩
 rintro n s3 ⟨i,σ3,H3,I3,st3,fr3,w3⟩
 rcases turn i n σ3 H3 w3 with ⟨stop,qn⟩ | ⟨go,N,hN,step⟩
 ·refine wpAny_passesOwn hp (thn (T.done X rfl rfl rfl hc i pins s3 σ3 H3 X.xe I3 (stat fr3) st3 stop) fun r s4 ⟨hr,I4⟩=>?_)
  subst hr
  exact wpAny_execs_nil ⟨σ3,H3,I4,qn⟩
 ·refine wpAny_passesOwn hp (thn (T.item X rfl rfl rfl hc i pins s3 σ3 H3 X.xe I3 (stat fr3) st3 go) fun r s4 ⟨u,hr,h4⟩=>?_)
  subst hr
  refine wpAny_passesOwn hp (thn h4 fun _ s5 ⟨x,H5,I5,r5,y5,st5,fr5⟩=>?_)
  have I5':=I5.pinned (stat fr5) (T.obj _ _ st5)
  refine wpAny_passesOwn hp (thn (hg _ s5 σ3 H5 x u _ I5' r5 (step x H5 y5)) fun _ s6 ⟨σ6,H6,I6,q6⟩=>?_)
  refine wpAny_passesOwn hp (thn (hb _ s6 σ6 H6 _ I6 q6) fun f s7 q7=>?_)
  have again:∀ {σ7:St} {H7:Hp},Inv X (pins++kM fp s5.heap) σ7 H7 s7→N σ7 H7→∃ m,m<n∧∃ i σ' H',Inv X pins σ' H' s7∧tn i s7.heap∧(∀ b∈fp,H' b=none)∧W i m σ' H':=fun {σ7 H7} I7 n7=>by
   obtain ⟨m',hm,w7⟩:=hN σ7 H7 n7
   refine ⟨m',hm,i+1,σ7,H7,I7.unpinned,T.keep _ _ _ st5 fun b hb o e=>(I7.pin (b,o) (List.mem_append_right _ (List.mem_append_right _ (dP hb e)))).1,fun b hb=>?_,w7⟩
   obtain ⟨o,e,d⟩:=T.obj _ _ st5 b hb
   exact (I7.pin (b,o) (List.mem_append_right _ (List.mem_append_right _ (dP hb e)))).2.1
  cases f with
  | next=>obtain ⟨σ7,H7,I7,n7⟩:=q7;exact again I7 n7
  | cont=>obtain ⟨σ7,H7,I7,n7⟩:=q7;exact again I7 n7
  | brk=>obtain ⟨σ7,H7,I7,q7⟩:=q7;exact ⟨σ7,H7,I7.unpinned,q7⟩
  | ret v=>obtain ⟨x7,σ7,H7,I7,r7,q7⟩:=q7;exact ⟨x7,σ7,H7,I7.unpinned,r7,q7⟩
end
theorem sB {K:PySem.W.Frag}{a:Addr}{xs:List V}{g:TG}{tb:TS}{D:kA}{σ:St}{H:Hp}(Pv:Nat→St→Hp→Prop)(h0:Pv 0 σ H)(hl:∀ i σ H,i≤xs.length→Pv i σ H→SqL K H a xs)
  (hs:∀ i x σ H,xs[i]?=some x→Pv i σ H→g x σ H fun σ2 H2=>tb { D with nx:=Pv (i+1),ct:=Pv (i+1),bk:=D.nx } σ2 H2) (hd:∀ σ H,Pv xs.length σ H→D.nx σ H) :
  ∃ W:Nat→Nat→St→Hp→Prop,(∃ m,W 0 m σ H)∧∀ i m σ H,W i m σ H →
   ((Itl K a).stop i H∧D.nx σ H)∨((Itl K a).go i H∧∃ N:St→Hp→Prop,(∀ σ' H',N σ' H'→∃ m',m'<m∧W (i+1) m' σ' H')∧∀ x H',(Itl K a).yld i H x H'→g x σ H' fun σ2 H2=>tb { D with nx:=N,ct:=N,bk:=D.nx } σ2 H2):=by
 refine ⟨fun i m σ H=>m=xs.length - i∧i≤xs.length∧Pv i σ H,⟨xs.length,by simp,Nat.zero_le _,h0⟩,?_⟩
 rintro i m σ H ⟨rfl,hi,p⟩
 have q:=hl i σ H hi p
 by_cases hlt:i<xs.length
 ·refine .inr ⟨⟨xs,xs[i],q,by simp [hlt]⟩,Pv (i+1),fun σ' H' p'=>⟨xs.length - (i+1),by omega,rfl,hlt,p'⟩,fun x H' y=>?_⟩
  obtain ⟨e,y⟩:=y
  subst e
  exact hs i x σ _ (y xs q) p
 ·have e:i=xs.length:=by omega
  subst e
  exact .inl ⟨⟨xs,q,Nat.le_refl _⟩,hd σ H p⟩
theorem uG {K:PySem.W.Frag}{a:Addr}{xs:List V}{g:TG}{tb:TS}{D:kA}{σ:St}{H:Hp}(Pv:Nat→St→Hp→Prop)(h0:Pv 0 σ H)(hl:∀ i σ H,i≤xs.length→Pv i σ H→SqT K H a xs)
  (hs:∀ i x σ H,xs[i]?=some x→Pv i σ H→g x σ H fun σ2 H2=>tb { D with nx:=Pv (i+1),ct:=Pv (i+1),bk:=D.nx } σ2 H2) (hd:∀ σ H,Pv xs.length σ H→D.nx σ H) :
  ∃ W:Nat→Nat→St→Hp→Prop,(∃ m,W 0 m σ H)∧∀ i m σ H,W i m σ H →
   ((Itt K a).stop i H∧D.nx σ H)∨((Itt K a).go i H∧∃ N:St→Hp→Prop,(∀ σ' H',N σ' H'→∃ m',m'<m∧W (i+1) m' σ' H')∧∀ x H',(Itt K a).yld i H x H'→g x σ H' fun σ2 H2=>tb { D with nx:=N,ct:=N,bk:=D.nx } σ2 H2):=by
 refine ⟨fun i m σ H=>m=xs.length - i∧i≤xs.length∧Pv i σ H,⟨xs.length,by simp,Nat.zero_le _,h0⟩,?_⟩
 rintro i m σ H ⟨rfl,hi,p⟩
 have q:=hl i σ H hi p
 by_cases hlt:i<xs.length
 ·refine .inr ⟨⟨xs,xs[i],q,by simp [hlt]⟩,Pv (i+1),fun σ' H' p'=>⟨xs.length - (i+1),by omega,rfl,hlt,p'⟩,fun x H' y=>?_⟩
  obtain ⟨e,y⟩:=y
  subst e
  exact hs i x σ _ (y xs q) p
 ·have e:i=xs.length:=by omega
  subst e
  exact .inl ⟨⟨xs,q,Nat.le_refl _⟩,hd σ H p⟩
theorem cP {lo:Int}{n:Nat}{g:TG}{tb:TS}{D:kA}{σ:St}{H:Hp}(Pv:Nat→St→Hp→Prop)(h0:Pv 0 σ H)
  (hs:∀ i σ H,i<n→Pv i σ H→g (.int (lo+i)) σ H fun σ2 H2=>tb { D with nx:=Pv (i+1),ct:=Pv (i+1),bk:=D.nx } σ2 H2) (hd:∀ σ H,Pv n σ H→D.nx σ H) :
  ∃ W:Nat→Nat→St→Hp→Prop,(∃ m,W 0 m σ H)∧∀ i m σ H,W i m σ H →
   ((Itr lo n).stop i H∧D.nx σ H)∨((Itr lo n).go i H∧∃ N:St→Hp→Prop,(∀ σ' H',N σ' H'→∃ m',m'<m∧W (i+1) m' σ' H')∧∀ x H',(Itr lo n).yld i H x H'→g x σ H' fun σ2 H2=>tb { D with nx:=N,ct:=N,bk:=D.nx } σ2 H2):=by
 refine ⟨fun i m σ H=>m=n - i∧i≤n∧Pv i σ H,⟨n,by simp,Nat.zero_le _,h0⟩,?_⟩
 rintro i m σ H ⟨rfl,hi,p⟩
 by_cases hlt:i<n
 ·refine .inr ⟨hlt,Pv (i+1),fun σ' H' p'=>⟨n - (i+1),by omega,rfl,hlt,p'⟩,fun x H' y=>?_⟩
  obtain ⟨e,y⟩:=y
  subst e y
  exact hs i σ _ hlt p
 ·have e:i=n:=by omega
  subst e
  exact .inl ⟨Nat.le_refl _,hd σ H p⟩
end L2
namespace L2
open PySem PySem.Spec PyProof.Rows
noncomputable abbrev R2:=V→V→Hp→VK→Prop
noncomputable def OpR (X:Cx) (f:Value→Value→Sem Value) (r:R2):Prop:=
 ∀ (pins:List (Addr × Obj)) (s:Shared) (σ:St) (H:Hp) (x y:V) (v u:Value) (Q:VK),Inv X pins σ H s→RelV x v→RelV y u→r x y H Q →
  wpAny (model X.prog X.w) X.A (f v u) (EP X pins σ Q) X.xe s
noncomputable def UnR (X:Cx) (f:Value→Sem Value) (r:V→Hp→VK→Prop):Prop:=
 ∀ (pins:List (Addr × Obj)) (s:Shared) (σ:St) (H:Hp) (x:V) (v:Value) (Q:VK),Inv X pins σ H s→RelV x v→r x H Q →
  wpAny (model X.prog X.w) X.A (f v) (EP X pins σ Q) X.xe s
noncomputable def CallR (X:Cx) (f:Value) (r:List V→Hp→VK→Prop):Prop:=
 ∀ (pins:List (Addr × Obj)) (s:Shared) (σ:St) (H:Hp) (xs:List V) (us:List Value) (Q:VK),Inv X pins σ H s→Vals xs us→r xs H Q →
  wpAny (model X.prog X.w) X.A (call f us) (EP X pins σ Q) X.xe s
noncomputable def tOp (r:R2) (ta tb:TE):TE:=fun σ H Q=>ta σ H fun x H1=>tb σ H1 fun y H2=>r x y H2 Q
noncomputable def tUn (r:V→Hp→VK→Prop) (ta:TE):TE:=fun σ H Q=>ta σ H fun x H1=>r x H1 Q
noncomputable def rI (C:Int→Int→Prop) (g:Int→Int→V):R2:=fun x y H Q=>∃ i j,x = .int i∧y = .int j∧C i j∧Q (g i j) H
inductive zK (g:Int→Int→V) (x y:V) (H:Hp) (Q:VK):Prop
 | mk (i j:Int) (hx:x = .int i) (hy:y = .int j) (q:Q (g i j) H):zK g x y H Q
noncomputable def rI0 (g:Int→Int→V):R2:=fun x y H Q=>zK g x y H Q
noncomputable def rU (g:Int→V):V→Hp→VK→Prop:=fun x H Q=>∃ i,x = .int i∧Q (g i) H
section
variable {X:Cx}{a b c:Expr}{ta tb tc:TE}{pos:Pos}
theorem yC (ha:PE X a ta)(hb:PE X b tb){pins:List (Addr × Obj)}{s:Shared}{σ:St}{H:Hp}{R:V→V→Hp→Prop}(I:Inv X pins σ H s)
  (h:ta σ H fun x H1=>tb σ H1 fun y H2=>R x y H2) {Q:Value→Shared→Prop} {f:Value→Value→Sem Value}
  (hf:∀ v u s2 x y H2,Inv X pins σ H2 s2→RelV x v→RelV y u→R x y H2→wpAny (model X.prog X.w) X.A (f v u) Q X.xe s2) :
  wpAny (model X.prog X.w) X.A (eval a X.env) (fun v s₁=>wpAny (model X.prog X.w) X.A (eval b X.env) (fun u s₂=>wpAny (model X.prog X.w) X.A (f v u) Q X.xe s₂) X.xe s₁) X.xe s:=by
 refine thn (ha pins s σ H _ I h) fun v s1 ⟨x,H1,I1,r1,q1⟩=>?_
 refine thn (hb pins s1 σ H1 _ I1 q1) fun u s2 ⟨y,H2,I2,r2,q2⟩=>?_
 exact hf v u s2 x y H2 I2 r1 r2 q2
theorem bB {op:Operator}{r:R2}(ho:OpR X (binaryOp op) r)(ha:PE X a ta)(hb:PE X b tb):PE X (.BinOp a op b pos) (tOp r ta tb):=by
 intro pins s σ H Q I h
 exact wpAny_BinOp (yC ha hb I h fun v u s2 x y H2 I2 rx ry q=>ho pins s2 σ H2 x y v u Q I2 rx ry q)
theorem vM {op:UnaryOp}{r:V→Hp→VK→Prop}(ho:UnR X (unaryOp op) r)(ha:PE X a ta):PE X (.UnaryOp op a pos) (tUn r ta):=by
 intro pins s σ H Q I h
 exact UnaryOp_ (thn (ha pins s σ H _ I h) fun v s1 ⟨x,H1,I1,r1,q1⟩=>ho pins s1 σ H1 x v Q I1 r1 q1)
theorem opI {f:Value→Value→Sem Value}{C:Int→Int→Prop}{g:Int→Int→Int}
  (rule:∀ (i j:Int) (t u:Tok) (s:Shared) (Q:Value→Shared→Prop) (E:Value→Shared→Prop),C i j→Q (.int (g i j) s.toks) { s with toks:=s.toks+1 }→wpAny (model X.prog X.w) X.A (f (.int i t) (.int j u)) Q E s) :
  OpR X f (rI C fun i j => .int (g i j)):=by
 intro pins s σ H x y v u Q I rx ry h
 obtain ⟨i,j,rfl,rfl,hc,q⟩:=h
 obtain ⟨t,rfl⟩:=rx
 obtain ⟨t',rfl⟩:=ry
 exact rule i j t t' s _ _ hc ⟨.int (g i j),H,I.tok _,⟨_,rfl⟩,q⟩
theorem zE {f:Value→Value→Sem Value}{g:Int→Int→Int}
  (rule:∀ (i j:Int) (t u:Tok) (s:Shared) (Q:Value→Shared→Prop) (E:Value→Shared→Prop),Q (.int (g i j) s.toks) { s with toks:=s.toks+1 }→wpAny (model X.prog X.w) X.A (f (.int i t) (.int j u)) Q E s) :
  OpR X f (rI0 fun i j => .int (g i j)):=by
 intro pins s σ H x y v u Q I rx ry h
 obtain ⟨i,j,rfl,rfl,q⟩:=h
 obtain ⟨t,rfl⟩:=rx
 obtain ⟨t',rfl⟩:=ry
 exact rule i j t t' s _ _ ⟨.int (g i j),H,I.tok _,⟨_,rfl⟩,q⟩
theorem xL {f:Value→Value→Sem Value}{g:Int→Int→Bool}
  (rule:∀ (i j:Int) (t u:Tok) (s:Shared) (Q:Value→Shared→Prop) (E:Value→Shared→Prop),Q (.bool (g i j)) s→wpAny (model X.prog X.w) X.A (f (.int i t) (.int j u)) Q E s) :
  OpR X f (rI0 fun i j => .bl (g i j)):=by
 intro pins s σ H x y v u Q I rx ry h
 obtain ⟨i,j,rfl,rfl,q⟩:=h
 obtain ⟨t,rfl⟩:=rx
 obtain ⟨t',rfl⟩:=ry
 exact rule i j t t' s _ _ ⟨.bl (g i j),H,I,rfl,q⟩
noncomputable def zB (i j:Int):Prop:=0<j∧j<1073741824
noncomputable def yS (i j:Int):Prop:=0≤j∧j≤1000000∧i.natAbs<2 ^ 64
noncomputable def CMul (i j:Int):Prop:=(-(2 ^ 64)<i∧i<2 ^ 64)∨(-(2 ^ 64)<j∧j<2 ^ 64)
theorem CMul.ok {i j:Int}(h:CMul i j):IntMulOk i j:=by
 rcases h with ⟨h1,h2⟩ | ⟨h1,h2⟩
 ·exact .of_left (intBits_le_64 h1 h2)
 ·exact .of_right (intBits_le_64 h1 h2)
theorem wZ:OpR X (binaryOp .Add) (rI0 fun i j => .int (i+j)):=zE fun _ _ _ _ _ _ _ q=>add_int q
theorem vP:OpR X (binaryOp .Sub) (rI0 fun i j => .int (i - j)):=zE fun _ _ _ _ _ _ _ q=>sub_int q
theorem xD:OpR X (binaryOp .Mult) (rI CMul fun i j => .int (i*j)):=opI fun _ _ _ _ _ _ _ hc q=>mul_int q hc.ok
theorem tQ:OpR X (binaryOp .FloorDiv) (rI zB fun i j => .int (i / j)):=opI fun i j _ _ _ _ _ hc q=>by
 have h1:(0:Int)<j:=hc.1
 have h2:j<1073741824:=hc.2
 exact floordiv_int (by omega) (by rw [Int.fdiv_eq_ediv_of_nonneg i (by omega)];exact q) (.inl (PyProof.noPylong_small (by omega)))
theorem eF:OpR X (binaryOp .Mod) (rI (fun _ j=>0<j) fun i j => .int (i % j)):=opI fun i j _ _ _ _ _ hc q=>by
 have h1:(0:Int)<j:=hc
 exact mod_int' (by omega) (by rw [Int.fmod_eq_emod_of_nonneg i (by omega)];exact q)
theorem pL:OpR X (binaryOp .Pow) (rI yS fun i j => .int (i ^ j.toNat)):=opI fun _ _ _ _ _ _ _ hc q=>pow_int_small hc.1 hc.2.1 hc.2.2 q
theorem unI {f:Value→Sem Value}{g:Int→Int}
  (rule:∀ (i:Int) (t:Tok) (s:Shared) (Q:Value→Shared→Prop) (E:Value→Shared→Prop),Q (.int (g i) s.toks) { s with toks:=s.toks+1 }→wpAny (model X.prog X.w) X.A (f (.int i t)) Q E s) :
  UnR X f (rU fun i => .int (g i)):=by
 intro pins s σ H x v Q I rx h
 obtain ⟨i,rfl,q⟩:=h
 obtain ⟨t,rfl⟩:=rx
 exact rule i t s _ _ ⟨.int (g i),H,I.tok _,⟨_,rfl⟩,q⟩
theorem tF:UnR X (unaryOp .USub) (rU fun i => .int (-i)):=unI fun _ _ _ _ _ q=>neg_int q
end
section
variable {X:Cx}{a b c:Expr}{ta tb tc:TE}{pos:Pos}
theorem tG {pins:List (Addr × Obj)}{σ:St}{H:Hp}{s:Shared}{Q:VK}{k k':Bool}(I:Inv X pins σ H s)(q:Q (.bl k) H)(e:k=k'):EP X pins σ Q (.bool k') s:=by
 subst e
 exact ⟨.bl k,H,I,rfl,q⟩
theorem pY:OpR X (compareOp .Lt) (rI0 fun i j => .bl (decide (i<j))):=xL fun _ _ _ _ _ _ _ q=>lt_int q
theorem rO:OpR X (compareOp .LtE) (rI0 fun i j => .bl (decide (i≤j))):=xL fun _ _ _ _ _ _ _ q=>le_int q
theorem wD:OpR X (compareOp .Gt) (rI0 fun i j => .bl (decide (j<i))):=xL fun _ _ _ _ _ _ _ q=>gt_int q
theorem yO:OpR X (compareOp .GtE) (rI0 fun i j => .bl (decide (j≤i))):=xL fun _ _ _ _ _ _ _ q=>ge_int q
theorem uA:OpR X (compareOp .IsNot) (fun x y H Q=>y = .non∧Q (.bl (!decide (x = .non))) H):=by
 intro pins s σ H x y v u Q I rx ry h
 obtain ⟨rfl,q⟩:=h
 cases ry
 refine isnot_none_gen (tG I q ?_)
 cases x <;> first
  | (cases rx;rfl)
  | (obtain ⟨t,rfl⟩:=rx;rfl)
theorem OpR.or {f:Value→Value→Sem Value}{r r':R2}(h:OpR X f r)(h':OpR X f r'):OpR X f (fun x y H Q=>r x y H Q∨r' x y H Q):=by
 intro pins s σ H x y v u Q I rx ry q
 rcases q with q | q
 ·exact h pins s σ H x y v u Q I rx ry q
 ·exact h' pins s σ H x y v u Q I rx ry q
theorem bA (b:Expr){op:CmpOp}(h:op ≠ .In:=by decide)(h2:op ≠ .NotIn:=by decide):behindInMarks op b=false:=by
 have e1:(op == CmpOp.In)=false:=by cases op <;> first | rfl | exact absurd rfl h
 have e2:(op == CmpOp.NotIn)=false:=by cases op <;> first | rfl | exact absurd rfl h2
 cases b <;> simp [behindInMarks,e1,e2]
theorem cK {op:CmpOp}{r:R2}(ho:OpR X (compareOp op) r)(ha:PE X a ta)(hb:PE X b tb)(hm:behindInMarks op b=false):PE X (.Compare a [op] [b] pos) (tOp r ta tb):=by
 intro pins s σ H Q I h
 exact wpAny_Compare1 (yC ha hb I h fun v u s2 x y H2 I2 rx ry q=>ho pins s2 σ H2 x y v u Q I2 rx ry q) hm
inductive TBP (x:V) (H:Hp) (Q:Bool→Hp→Prop):Prop
 | mk (k:Bool) (e:x = .bl k) (q:Q k H):TBP x H Q
noncomputable def dA (t:TE):TT:=fun σ H Q=>t σ H fun x H'=>TBP x H' Q
theorem bN {op:CmpOp}{r:R2}(ho:OpR X (compareOp op) r)(ha:PE X a ta)(hb:PE X b tb)(hm:behindInMarks op b=false):PT X (.Compare a [op] [b] pos) (dA (tOp r ta tb)):=by
 intro pins s σ H Q I h
 refine wpAny_isTrue_Compare1 (thn (ha pins s σ H _ I h) fun v s1 ⟨x,H1,I1,r1,q1⟩=>thn (hb pins s1 σ H1 _ I1 q1) fun u s2 ⟨y,H2,I2,r2,q2⟩=>
  thn (ho pins s2 σ H2 x y v u _ I2 r1 r2 q2) fun c s3 ⟨z,H3,I3,r3,k,e,q3⟩=>?_) hm
 subst e
 cases r3
 exact wpAny_truthy_bool ⟨H3,I3,q3⟩
noncomputable def tJ (r r':R2) (ta tb tc:TE):TE:=fun σ H Q=>ta σ H fun x H1=>tb σ H1 fun y H2=>r x y H2 fun z H3=>∃ k,z = .bl k ∧
 (if k=true then tc σ H3 fun w' H4=>r' y w' H4 Q else Q (.bl false) H3)
theorem sI {op op':CmpOp}{r r':R2}(ho:OpR X (compareOp op) r)(ho':OpR X (compareOp op') r')(ha:PE X a ta)(hb:PE X b tb)(hc:PE X c tc)
  (hm:lastMarks [op,op'] [b,c]=false:=by with_unfolding_all rfl):PT X (.Compare a [op,op'] [b,c] pos) (dA (tJ r r' ta tb tc)):=by
 intro pins s σ H Q I h
 refine isTrue_chain (thn (ha pins s σ H _ I h) fun v s1 ⟨x,H1,I1,r1,q1⟩=>test_link (thn (hb pins s1 σ H1 _ I1 q1) fun u s2 ⟨y,H2,I2,r2,q2⟩=>
  thn (ho pins s2 σ H2 x y v u _ I2 r1 r2 q2) fun d s3 ⟨z,H3,I3,r3,k,e,q3⟩=>?_)) hm
 subst e
 cases r3
 refine wpAny_truthy_bool ?_
 cases k with
 | false=>
  obtain ⟨k',e',q'⟩:=q3
  cases e'
  exact ite_ff ⟨H3,I3,q'⟩
 | true=>
  refine ite_tt (test_last (thn (hc pins s3 σ H3 _ I3 q3) fun w' s4 ⟨z',H4,I4,r4,q4⟩=>thn (ho' pins s4 σ H4 y z' u w' _ I4 r2 r4 q4) fun d' s5 ⟨z2,H5,I5,r5,k2,e2,q5⟩=>?_))
  subst e2
  cases r5
  exact wpAny_truthy_bool ⟨H5,I5,q5⟩
theorem lO:(sizeLine:Nat)<2 ^ 63:=by rw [sizeLine_eq];decide
theorem nX:OpR X (binaryOp .Add) (fun x y H Q=>∃ i j,x = .str i∧y = .str j∧i.length+j.length≤sizeLine∧Q (.str (i++j)) H):=by
 intro pins s σ H x y v u Q I rx ry h
 obtain ⟨i,j,rfl,rfl,hz,q⟩:=h
 obtain ⟨t,rfl⟩:=rx
 obtain ⟨t',rfl⟩:=ry
 exact add_str (fun t' tk=>⟨.str (i++j),H,I.tok _,⟨_,rfl⟩,q⟩) hz
theorem iO {x:V}{us:List Value}(r:Vals [x] us):∃ u,us=[u]∧RelV x u:=by
 cases r with
 | cons r1 r2=>cases r2;exact ⟨_,rfl,r1⟩
theorem pM:CallR X (.type "int") (fun xs H Q=>(∃ i,xs=[.int i]∧Q (.int i) H)∨∃ k,xs=[.bl k]∧Q (.int (if k then 1 else 0)) H):=by
 intro pins s σ H xs us Q I r h
 rcases h with ⟨i,rfl,q⟩ | ⟨k,rfl,q⟩
 ·obtain ⟨u,rfl,t,rfl⟩:=iO r
  exact call_int_int ⟨.int i,H,I,⟨_,rfl⟩,q⟩
 ·obtain ⟨u,rfl,r1⟩:=iO r
  cases r1
  exact call_int_bool ⟨.int (if k then 1 else 0),H,I.tok _,⟨_,rfl⟩,q⟩
end
end L2
namespace L2
open PySem PySem.Spec PyProof.Rows
section
variable {prog:Program}{w:World}{A:Around}{E:Value→Shared→Prop}{s:Shared}{K:PySem.W.Frag}{x dx C f:Addr}{mA:Str→Option Value}{name:Str}{v:Value}
end
section
variable {P:Program}{w:World}{H H':Hp}{h h':Heap}{a C dx:Addr}{fs fs':List (Str × V)}
end
section
variable {X:Cx}{pins:List (Addr × Obj)}{σ:St}{H:Hp}{s:Shared}{a C dx:Addr}{fs:List (Str × V)}{f:Str}{v:V}{A:Around}{E:Value→Shared→Prop}
end
section
variable {X:Cx}{o e value:Expr}{f:Str}{pos pos' tpos:Pos}{ta tv:TE}
end
section
variable {X:Cx}{pins:List (Addr × Obj)}{σ:St}{H:Hp}{s:Shared}{A:Around}{E:Value→Shared→Prop}{Q:Value→Shared→Prop}{c:Value}{b:Bool}
end
end L2
namespace L2
open PySem PySem.Spec PyProof.Rows
structure Room (k:Nat)(A:Around):Prop where
 hd:A.handled=none
 dp:A.depth+3*k+5<recursionLimit
 un:A.units+16*k+200<cLine
 gd:A.guards=some []
theorem Room.mono {j k:Nat}{A:Around}(r:Room k A)(h:j≤k):Room j A:=⟨r.hd,by have:=r.dp;omega,by have:=r.un;omega,r.gd⟩
theorem Room.deeper {k:Nat}{A:Around}(r:Room (k+1) A)(env:Env):Room k (A.deeper env):=
 ⟨r.hd,by have:=r.dp;show A.depth+1+3*k+5<_;omega,by have:=r.un;show A.units+3+16*k+200<_;omega,r.gd⟩
theorem Room.depth {k:Nat}{A:Around}(r:Room k A):A.depth<recursionLimit:=by have:=r.dp;omega
noncomputable def aS:TA:=fun _ H Q=>Q [] H
noncomputable def aD (ta:TE) (tr:TA):TA:=fun σ H Q=>ta σ H fun x H1=>tr σ H1 fun xs H2=>Q (x :: xs) H2
section
variable {X:Cx}{e:Expr}{es:List Expr}{te:TE}{t:TA}{pos:Pos}
theorem aC:PA X [] aS:=fun _ _ _ _ H Q I h=>Calls.spliced_nil ⟨[],H,I, .nil,h⟩
theorem bJ (ha:PE X e te)(hr:PA X es t)(hs:starEach (e :: es) X.env=(false,eval e X.env) :: starEach es X.env:=by rfl):PA X (e :: es) (aD te t):=by
 intro pos pins s σ H Q I h
 rw [hs]
 show wpAny _ _ (spliced ((false,eval e X.env) :: backTo pos (starEach es X.env))) _ _ s
 refine Calls.spliced_cons (thn (ha pins s σ H _ I h) fun u s1 ⟨x,H1,I1,r1,q1⟩=>?_)
 exact thn (hr pos pins s1 σ H1 _ I1 q1) fun us s2 ⟨xs,H2,I2,r2,q2⟩=>⟨x :: xs,H2,I2, .cons r1 r2,q2⟩
noncomputable def rW (t:TA):TE:=fun σ H Q=>t σ H fun xs H1=>xs.length≤sizeLine∧∀ p,H1 p=none→Q (.ref p) (upd H1 p (.lst xs))
theorem gS (h:PA X es t):PE X (.List es pos) (rW t):=by
 intro pins s σ H Q I hq
 refine wpAny_List_spliced (thn (h pos pins s σ H _ I hq) fun us s1 ⟨xs,H1,I1,r,z,q⟩=>⟨by rw [← r.length];exact z,?_⟩)
 have hf:H1 s1.heap.objs.size=none:=I1.hok.fresh (Nat.le_refl _)
 refine ⟨.ref s1.heap.objs.size,upd H1 s1.heap.objs.size (.lst xs),I1.laid (t':=s1.toks) (fun b u e=>Heap.get?_push_of_some _ e) (Nat.le_refl _) ?_,rfl,q _ hf⟩
 exact ⟨z,us,0,r,Heap.get?_push_size _ rfl⟩
end
noncomputable abbrev Sp:=List V→Hp→VK→XK→Prop
noncomputable abbrev CXT:=List Env→Hp→Shared→XK→Value→Shared→Prop
structure xM (P:Program)(w:World)(K:PySem.W.Frag)(mg:Str→Option Value)(base:Heap)(A:Around)(outer:List Env)(s:Shared)(H:Hp):Prop where
 frames:A.frames=some outer
 mod:Mod K mg base
 bs:∀ b o,base.get? b=some o→s.heap.get? b=some o∧H b=none
 bsz:base.objs.size≤s.heap.objs.size
 funs:s.heap.FunFrames base outer
 frf:∀ b∈frs outer,H b=none
 hok:HOk P w H s.heap
 bare:AllBare s.gens
noncomputable def CE (outer:List Env) (P:Program) (w:World) (H:Hp) (s:Shared) (Q:VK) (u:Value) (s':Shared):Prop:=
 ∃ v H',s'.os=s.os∧AllBare s'.gens∧Un (frs outer) [] H H' s.heap s'.heap∧HOk P w H' s'.heap∧RelV v u∧Q v H'
noncomputable def CR (CX:CXT) (outer:List Env) (P:Program) (w:World) (H:Hp) (s:Shared) (Q:VK) (E:XK) (r:Result) (s':Shared):Prop:=
 match r with
 | .ok (.ret u)=>CE outer P w H s Q u s'
 | .ok _=>False
 | .error e=>CX outer H s E e s'
structure FnOk (P:Program)(w:World)(K:PySem.W.Frag)(mg:Str→Option Value)(base:Heap)(CX:CXT)(k:Nat)(f:Addr)(fd:FuncData)(ps:List Str)(sp:Sp):Prop where
 len:∀ vs H Q E,sp vs H Q E→vs.length=ps.length
 run:∀ (A:Around) (outer:List Env) (s:Shared) (H:Hp) (args:Args) (us:List Value) (vs:List V) (Q:VK) (E:XK),Room k A→xM P w K mg base A outer s H→BindsTo s fd args (ps.zip us)→Vals vs us→sp vs H Q E →
  codeAny (model P w) A (.call (.ref f) args) (CR CX outer P w H s Q E) s
theorem FnOk.mono {P:Program}{w:World}{K:PySem.W.Frag}{mg:Str→Option Value}{base:Heap}{CX:CXT}{j k:Nat}{f:Addr}{fd:FuncData}{ps:List Str}{sp:Sp}(F:FnOk P w K mg base CX j f fd ps sp)(h:j≤k) :
  FnOk P w K mg base CX k f fd ps sp:=⟨F.len,fun A outer s H args us vs Q E hr=>F.run A outer s H args us vs Q E (hr.mono h)⟩
section
variable {X:Cx}{pins:List (Addr × Obj)}{σ:St}{H:Hp}{s s':Shared}
theorem Inv.env0 (I:Inv X pins σ H s):xM X.prog X.w X.K X.mg X.base X.A X.stack s H:=
 ⟨I.ok.frames,I.ok.mod,I.bs,Nat.le_trans I.ok.bsz I.sz,I.stack,I.stkFree,I.hok,I.bare⟩
theorem Inv.after {Q:VK}{u:Value}(I:Inv X pins σ H s)(h:CE X.stack X.prog X.w H s Q u s'):EP X pins σ Q u s':=by
 obtain ⟨v,H',os,bare,un,hok,r,q⟩:=h
 obtain ⟨hh,g,d,t,os'⟩:=s'
 obtain rfl:os'=s.os:=os
 exact ⟨v,H',I.call (h':=hh) (g':=g) (d':=d) (t':=t) (ch:=[]) un hok bare (fun b z=>absurd z (by simp)),r,q⟩
end
noncomputable def cC (sp:Sp) (dvs:List V) (E:XK) (t:TA):TE:=fun σ H Q=>t σ H fun vs H1=>sp (vs++dvs) H1 Q E
noncomputable def Binds (K:PySem.W.Frag) (fd:FuncData) (ps:List Str) (ds:List Value):Prop:=
 ∀ (s:Shared) (us:List Value),K.In s.heap→(us++ds).length=ps.length→BindsTo s fd ⟨us,[]⟩ (ps.zip (us++ds))
theorem Binds.all {K:PySem.W.Frag}{fd:FuncData}{ps:List Str}(h:∀ us:List Value,us.length=ps.length→bindArgs fd ⟨us,[]⟩=pure (ps.zip us)):Binds K fd ps []:=fun s us _ hl=>by
 rw [List.append_nil] at hl ⊢
 exact .of_eq (h us hl)
noncomputable def qS (CX:CXT) (X:Cx) (E:XK):Prop:=∀ (pins:List (Addr × Obj)) (σ:St) (H:Hp) (s:Shared) (e:Value) (s':Shared),Inv X pins σ H s→CX X.stack H s E e s'→X.xe e s'
section
variable {X:Cx}{CX:CXT}{k:Nat}{f C:Addr}{fd:FuncData}{ps:List Str}{sp:Sp}{dvs:List V}{ds:List Value}{E:XK}{x m:Str}{p pos apos:Pos}{e o:Expr}{es:List Expr}{ta:TE}{t:TA}
theorem wW {pins:List (Addr × Obj)}{σ:St}{H:Hp}{s:Shared}{Q:VK}{us:List Value}{vs:List V}(F:FnOk X.prog X.w X.K X.mg X.base CX k f fd ps sp)(hr:Room k X.A)(hb:Binds X.K fd ps ds)(hd:Vals dvs ds)(hx:qS CX X E)
  (I:Inv X pins σ H s) (r:Vals vs us) (h:sp (vs++dvs) H Q E):wpAny (model X.prog X.w) X.A (call (.ref f) us) (EP X pins σ Q) X.xe s:=by
 have r2:Vals (vs++dvs) (us++ds):=r.append hd
 have hl:(us++ds).length=ps.length:=by rw [← r2.length];exact F.len _ _ _ _ h
 refine wpAny_call (codeAny_mono (F.run X.A X.stack s H ⟨us,[]⟩ (us++ds) (vs++dvs) Q E hr I.env0 (hb s us I.kIn hl) r2 h) fun r s' hq=>?_)
 cases r with
 | error e=>exact hx pins σ H s e s' I hq
 | ok fl=>
  cases fl with
  | ret u=>exact I.after hq
  | next=>exact False.elim hq
  | brk=>exact False.elim hq
  | cont=>exact False.elim hq
theorem uJ (F:FnOk X.prog X.w X.K X.mg X.base CX k f fd ps sp)(hr:Room k X.A)(hg:Gl X x)(hm:X.mg x=some (.ref f))(hk:PySem.W.keepIn X.K (.ref f)=true)(hb:Binds X.K fd ps ds)(hd:Vals dvs ds)(hx:qS CX X E)
  (ha:PA X (e :: es) t) (hdb:(x == ("__debug__" : Str))=false:=by decide) (he:starEach (e :: es) X.env=(false,eval e X.env) :: starEach es X.env:=by rfl) (hpl:(backTo pos (starEach es X.env)).any (·.1)=false:=by rfl) :
  PE X (.Call (.Name x p) (e :: es) [] pos) (cC sp dvs E t):=by
 intro pins s σ H Q I h
 refine wpAny_Call_Name_kw (qM I hg hm ?_ hdb)
 refine PySem.W.callWith_K (h₀:=X.base) I.ok.mod.kin hk (thn (ha pos pins s σ H _ I h) fun us s1 ⟨vs,H1,I1,r,q⟩=>⟨I1.kIn,?_⟩) he hpl
 exact wW F hr hb hd hx I1 r q
end
section
variable {X:Cx}{CX:CXT}{k:Nat}{f C:Addr}{fd:FuncData}{ps ks:List Str}{sp:Sp}{E:XK}{x m:Str}{p pos apos kpos:Pos}{e o:Expr}{es:List Expr}{kws:List Keyword}{te ta:TE}{t tk:TA}{nm:Option Str}
variable {g:List Value→List Value→List Value}{gV:List V→List V→List V}
end
structure aZ (N P:List Str)(sc:Scope):Prop where
 kind:sc.kind = .function
 co:sc.isCoroutine=false
 gen:sc.isGenerator=false
 nd:N.Nodup
 pre:N.take P.length=P
 par:∀ x∈P,sc.names.lookup x=some .local∨sc.names.lookup x=some .cell
 nofree:∀ y∈sc.names,y.2 ≠ .free
theorem lI {kindOf:Str→Option NameKind}{x:Str}:∀ {binds:List (Str × Value)} {m:Str→Option Value},(∀ v,(x,v)∉binds)→bindL kindOf binds m x=m x
 | [],_,_=>rfl
 | (n,v) :: r,m,h=>by
  unfold bindL
  rw [lI fun w hw=>h w (List.mem_cons_of_mem _ hw)]
  split
  ·have:x≠n:=by rintro rfl;exact h v List.mem_cons_self
   simp [this]
  ·rfl
theorem lP {kindOf:Str→Option NameKind}{x:Str}:∀ {binds:List (Str × Value)} {m:Str→Option Value},(∀ v,(x,v)∉binds)→bindC kindOf binds m x=m x
 | [],_,_=>rfl
 | (n,v) :: r,m,h=>by
  unfold bindC
  rw [lP fun w hw=>h w (List.mem_cons_of_mem _ hw)]
  split
  ·rfl
  ·have:x≠n:=by rintro rfl;exact h v List.mem_cons_self
   simp [this]
theorem lZ {kindOf:Str→Option NameKind}{x:Str}{v:Value}:∀ {P:List Str} {vs:List Value} {i:Nat} {m:Str→Option Value},P.Nodup→P[i]?=some x→vs[i]?=some v→kindOf x=some .local →
  bindL kindOf (P.zip vs) m x=some v
 | [],_,_,_,_,h,_,_=>by simp at h
 | _ :: _,[],_,_,_,_,h,_=>by simp at h
 | p :: P,w :: vs,0,m,nd,h1,h2,hk=>by
  simp at h1 h2;subst h1;subst h2
  show bindL kindOf ((p,w) :: P.zip vs) m p=_
  unfold bindL
  rw [lI fun v hv=>(List.nodup_cons.mp nd).1 (List.of_mem_zip hv).1,if_pos hk]
  simp
 | p :: P,w :: vs,i+1,m,nd,h1,h2,hk=>by
  show bindL kindOf ((p,w) :: P.zip vs) m x=_
  unfold bindL
  exact lZ (i:=i) (List.nodup_cons.mp nd).2 (by simpa using h1) (by simpa using h2) hk
theorem lB {kindOf:Str→Option NameKind}{x:Str}{v:Value}:∀ {P:List Str} {vs:List Value} {i:Nat} {m:Str→Option Value},P.Nodup→P[i]?=some x→vs[i]?=some v→kindOf x≠some .local →
  bindC kindOf (P.zip vs) m x=some v
 | [],_,_,_,_,h,_,_=>by simp at h
 | _ :: _,[],_,_,_,_,h,_=>by simp at h
 | p :: P,w :: vs,0,m,nd,h1,h2,hk=>by
  simp at h1 h2;subst h1;subst h2
  show bindC kindOf ((p,w) :: P.zip vs) m p=_
  unfold bindC
  rw [lP fun v hv=>(List.nodup_cons.mp nd).1 (List.of_mem_zip hv).1,if_neg hk]
  simp
 | p :: P,w :: vs,i+1,m,nd,h1,h2,hk=>by
  show bindC kindOf ((p,w) :: P.zip vs) m x=_
  unfold bindC
  exact lB (i:=i) (List.nodup_cons.mp nd).2 (by simpa using h1) (by simpa using h2) hk
noncomputable def aW (N:List Str) (vs:List V):St:=vs.map some++List.replicate (N.length - vs.length) none
noncomputable def vH (CX:CXT) (P:Program) (w:World) (K:PySem.W.Frag) (mg:Str→Option Value) (base:Heap) (N:List Str) (qual:Str) (scope:Scope) (f:Addr) (cd:Value) (A:Around) (outer:List Env) (s:Shared) (H:Hp) (E:XK):Cx where
 prog:=P
 w:=w
 K:=K
 mg:=mg
 base:=base
 A:=A.deeper (envOfC qual scope s.heap.objs.size f cd)
 N:=N
 s₀:=s
 H₀:=H
 env:=envOfC qual scope s.heap.objs.size f cd
 outer:=outer
 stack:=envOfC qual scope s.heap.objs.size f cd :: outer
 ex:=[]
 calm:=true
 fn:=fun _=>true
 pn:=[]
 xe:=fun e s'=>wpAny (model P w) (A.deeper (envOfC qual scope s.heap.objs.size f cd)) (leaving (envOfC qual scope s.heap.objs.size f cd) e) (fun _ s''=>CX outer H s E e s'') (fun e' s''=>CX outer H s E e' s'') s'
theorem nI {sc:Scope}{n:Nat}{x:Str}(h:sc.names.lookup x=some .cell):∃ c,(cellsFrom n sc.names []).lookup x=some c:=by
 have q:=PySem.W.cellsFrom_some sc.names n [] (.inl h)
 exact Option.isSome_iff_exists.mp q
theorem qP {CX:CXT}{P:Program}{w:World}{K:PySem.W.Frag}{mg:Str→Option Value}{base:Heap}{N ps:List Str}{qual:Str}{scope:Scope}{f:Addr}{cd:Value}{A:Around}{outer:List Env}{s s1:Shared}{H:Hp}{E:XK}{us:List Value}{vs:List V}
  (S:aZ N ps scope) (hd:A.handled=none) (e0:xM P w K mg base A outer s H) (hl:vs.length=ps.length) (r:Vals vs us)
  (x:InCallC s s.heap.objs.size (bindL (envOfC qual scope s.heap.objs.size f cd).kindOf (ps.zip us) fun _=>none) (cellsFrom (s.heap.objs.size+1) scope.names []) (bindC (envOfC qual scope s.heap.objs.size f cd).kindOf (ps.zip us) fun _=>none) s1) :
  Inv (vH CX P w K mg base N qual scope f cd A outer s H E) [] (aW N vs) H s1:=by
 have hpl:ps.length≤N.length:=by have:=congrArg List.length S.pre;rw [List.length_take] at this;omega
 obtain ⟨h1,tk,rfl,hk⟩:=x.done
 have noA:∀ b:Addr,b∉(vH CX P w K mg base N qual scope f cd A outer s H E).ex:=fun b z=>absurd (show b∈([]:List Addr) from z) (by simp)
 refine ⟨⟨e0.mod,S.kind,rfl,rfl,Nat.le_refl _,fun y z c h1 h2=>?_,fun y hy=>?_,fun y c _ h=>?_,fun _=>hd,Around.frames_deeper e0.frames, .inr ⟨rfl,rfl⟩,fun b z=>absurd z (noA b),e0.bs,e0.bsz,fun b _ _=>noA b,fun b z=>absurd z (noA b),e0.funs,e0.frf⟩,
  rfl,e0.bare,Un.kept hk,⟨_,x.toInCall.ns,fun i y v h1 h2 h3=>?_⟩,fun y c h=>⟨_,x.cell y c h⟩,e0.hok.fresh (Nat.le_refl _),fun y c h=>?_,fun p hp=>absurd (show p∈([]:List (Addr × Obj)) from hp) (by simp),e0.hok.kept hk,?_⟩
 ·exact name_of_addr x.apart (PySem.mem_of_lookup h1) (PySem.mem_of_lookup h2)
 ·have hy:scope.names.lookup y=some .cell∨scope.names.lookup y=some .free:=hy
  rcases hy with hy | hy
  ·exact nI hy
  ·exact absurd rfl (S.nofree _ (PySem.mem_of_lookup hy))
 ·exact Nat.le_of_lt (x.above y c (PySem.mem_of_lookup h))
 ·have hi:i<vs.length:=by
   unfold aW at h2
   by_cases hi:i<vs.length
   ·exact hi
   ·rw [List.getElem?_append_right (by simpa using hi)] at h2
    rw [List.getElem?_replicate] at h2
    split at h2 <;> cases h2
  have ha:vs[i]?=some v:=by
   unfold aW at h2
   rw [List.getElem?_append_left (by simpa using hi),List.getElem?_map] at h2
   cases e:vs[i]? with
   | none=>rw [e] at h2;cases h2
   | some a=>rw [e] at h2;cases h2;rfl
  obtain ⟨u,hu,rv⟩:=r.get ha
  have hp:ps[i]?=some y:=by
   rw [← S.pre,List.getElem?_take_of_lt (by omega)];exact h1
  have ndP:ps.Nodup:=by rw [← S.pre];exact S.nd.sublist (List.take_sublist _ _)
  refine ⟨u,rv,?_⟩
  rcases S.par y (List.mem_of_getElem? hp) with k | k
  ·exact .inl ⟨k,lZ ndP hp hu k⟩
  ·obtain ⟨c,e⟩:=nI (n:=s.heap.objs.size+1) k
   refine .inr ⟨.inl k,c,e,?_⟩
   have q:=x.cell y c e
   rw [lB ndP hp hu (by show scope.names.lookup y≠_;rw [k];decide)] at q
   exact q
 ·exact e0.hok.fresh (Nat.le_of_lt (x.above y c (PySem.mem_of_lookup h)))
 ·unfold aW
  show _=N.length
  rw [List.length_append,List.length_map,List.length_replicate]
  omega
theorem yA {CX:CXT}{P:Program}{w:World}{K:PySem.W.Frag}{mg:Str→Option Value}{base:Heap}{k:Nat}{f:Addr}{name qual:Str}{params:Arguments}{body:List Stmt}{scope:Scope}{dV kV doc pm cdv ct oc:Value}{an od:Option Addr}
  {osl:Array (Option Value)} {N ps:List Str} {sp:Sp} (lk:K.lookup f=some ⟨oc,od, .func (PySem.W.fnOf name qual params body scope dV kV doc pm an cdv ct),osl⟩) (hcd:PySem.W.codeIn K cdv qual=true) (S:aZ N ps scope)
  (len:∀ vs H Q E,sp vs H Q E→vs.length=ps.length)
  (hbody:∀ (A:Around) (outer:List Env) (s:Shared) (H:Hp) (vs:List V) (Q:VK) (E:XK),Room k (A.deeper (envOfC qual scope s.heap.objs.size f cdv))→sp vs H Q E →
   ∃ t,PSs (vH CX P w K mg base N qual scope f cdv A outer s H E) body t∧t { nx:=fun _ H'=>Q .non H',rt:=Q } (aW N vs) H) :
  FnOk P w K mg base CX (k+1) f (PySem.W.fnOf name qual params body scope dV kV doc pm an cdv ct) ps sp:=by
 refine ⟨len,fun A outer s H args us vs Q E hr e0 hb r hsp=>?_⟩
 have hl:=len _ _ _ _ hsp
 have KX:K.In s.heap:=e0.mod.kin.keeps fun b o e=>(e0.bs b o e).1
 have lim:s.heap.NoLimit:=e0.mod.nolimit.keeps fun b o e=>(e0.bs b o e).1
 have hkind:∀ y∈ps.zip us,scope.names.lookup y.1=some .local∨(scope.names.lookup y.1=some .cell∧((cellsFrom (s.heap.objs.size+1) scope.names []).lookup y.1).isSome=true):=fun ⟨n,v⟩ hy=>by
  rcases S.par n (List.of_mem_zip hy).1 with q | q
  ·exact .inl q
  ·exact .inr ⟨q,PySem.W.cellsFrom_some _ _ _ (.inl q)⟩
 refine codeAny_call_function hr.depth (KX _ _ lk) rfl S.co S.gen rfl (PySem.W.codeRec_of KX hcd) (hb _ _ _ _ ?_)
 refine wpAny_newFunctionEnv_cells S.kind hkind fun env he s1 x=>?_
 subst he
 refine ⟨lim.keeps x.toInCall.keep,codeAny_func ?_⟩
 obtain ⟨t,ht,hq⟩:=hbody A outer s H vs Q E (hr.deeper _) hsp
 have I:Inv (vH CX P w K mg base N qual scope f cdv A outer s H E) [] (aW N vs) H s1:=qP S hr.hd e0 hl r x
 refine wpAny_mono (ht [] s1 (aW N vs) H _ I hq) (fun fl s' hs=>?_) fun e s' hs=>hs
 have fin:∀ {σ':St} {H':Hp} {v:V} {u:Value},Inv (vH CX P w K mg base N qual scope f cdv A outer s H E) [] σ' H' s'→RelV v u→Q v H'→CE outer P w H s Q u s':=
  fun {σ' H' v u} J rv q=>⟨v,H',J.os,J.bare,J.base,J.hok,rv,q⟩
 cases fl with
 | ret u=>
  obtain ⟨v,σ',H',J,rv,q⟩:=hs
  exact fin J rv q
 | next=>
  obtain ⟨σ',H',J,q⟩:=hs
  exact fin (v:=V.non) (u:=Value.none) J rfl q
 | brk=>
  obtain ⟨_,_,_,q⟩:=hs
  exact False.elim q
 | cont=>
  obtain ⟨_,_,_,q⟩:=hs
  exact False.elim q
end L2
namespace L2
open PySem PySem.Spec PyProof.Rows
section
variable {X:Cx}{x:Str}{p pos:Pos}{e:Expr}{es:List Expr}{t:TA}{id T:String}{r:List V→Hp→VK→Prop}
noncomputable def tCB (r:List V→Hp→VK→Prop) (t:TA):TE:=fun σ H Q=>t σ H fun vs H1=>r vs H1 Q
theorem aL (hc:CallR X (.builtin id) r)(hg:Gl X x)(hm:X.mg x=none)(hv:bootBuiltins x=some (.builtin id))(ha:PA X (e :: es) t)(hn:x≠"__name__":=by decide)(hdb:(x == ("__debug__" : Str))=false:=by decide)
  (he:starEach (e :: es) X.env=(false,eval e X.env) :: starEach es X.env:=by rfl) (hpl:(backTo pos (starEach es X.env)).any (·.1)=false:=by rfl):PE X (.Call (.Name x p) (e :: es) [] pos) (tCB r t):=by
 intro pins s σ H Q I h
 refine wpAny_Call_Name_kw (lM I hg hm hv ?_ hn hdb)
 exact PyProof.Rows.callWith_builtin1 (thn (ha pos pins s σ H _ I h) fun us s1 ⟨vs,H1,I1,r1,q1⟩=>hc pins s1 σ H1 vs us Q I1 r1 q1) he hpl
theorem aR (hc:CallR X (.type T) r)(hg:Gl X x)(hm:X.mg x=none)(hv:bootBuiltins x=some (.type T))(ha:PA X (e :: es) t)(hn:x≠"__name__":=by decide)(hdb:(x == ("__debug__" : Str))=false:=by decide)
  (he:starEach (e :: es) X.env=(false,eval e X.env) :: starEach es X.env:=by rfl) (hpl:(backTo pos (starEach es X.env)).any (·.1)=false:=by rfl):PE X (.Call (.Name x p) (e :: es) [] pos) (tCB r t):=by
 intro pins s σ H Q I h
 refine wpAny_Call_Name_kw (lM I hg hm hv ?_ hn hdb)
 exact PyProof.Rows.callWith_type1 (thn (ha pos pins s σ H _ I h) fun us s1 ⟨vs,H1,I1,r1,q1⟩=>hc pins s1 σ H1 vs us Q I1 r1 q1) he hpl
end
end L2
namespace HT
open PySem PyProof.Rows
section
open PySem.SeqAt
open PySem.AutoSeq1 (wpAny_loadPart')
open PySem.MeetsSeq PySem.MeetsSeq2 PySem.MeetsSeq3
end
section
variable {prog:Program}{w:World}{A:Around}{E:Value→Shared→Prop}{s:Shared}
theorem cat_tup {t b:Addr}{vs ws:List Value}{Q:Value→Shared→Prop}(ht:IsTup s.heap t vs.toArray)(hb:IsTup s.heap b ws.toArray)(hv:vs≠[])
  (h1:ws=[]→Q (.ref t) s) (h2:ws≠[]→Q (.ref s.heap.objs.size) { s with heap:=s.heap.push { cls := .type "tuple",data := .seq (vs++ws).toArray } })
  (hsz:vs.length+ws.length≤sizeLine):wpAny (model prog w) A (binaryOp .Add (.ref t) (.ref b)) Q E s:=by
 obtain ⟨⟨cls,dd,data,sl⟩,ho,hc,n,hd⟩:=id ht
 obtain ⟨⟨cls2,dd2,data2,sl2⟩,ho2,hc2,n2,hd2⟩:=id hb
 simp only at hc hd hc2 hd2
 subst hc hd hc2 hd2
 have e:vs.toArray++ws.toArray=(vs++ws).toArray:=by simp
 by_cases hw:ws=[]
 ·exact concat_meets ⟨_,ho,rfl⟩ ⟨_,ho2,rfl⟩ noFill_tuple_add seq_tuple_add PySem.F.slot_tuple_add PySem.F.entry_tuple_add (PySem.F.args_tuple_add_2 _ _)
   (tuple_addW1 t b vs.toArray ws.toArray n n2 dd dd2 sl sl2 (by simpa using hv) (by simp [hw])) ⟨ho,ho2,h1 hw⟩
 ·refine concat_meets ⟨_,ho,rfl⟩ ⟨_,ho2,rfl⟩ noFill_tuple_add seq_tuple_add PySem.F.slot_tuple_add PySem.F.entry_tuple_add (PySem.F.args_tuple_add_2 _ _)
   (tuple_addW2 t b vs.toArray ws.toArray n n2 dd dd2 sl sl2 (by simpa using hv) (by simpa using hw) (by rw [List.size_toArray,List.size_toArray];exact hsz)) ⟨ho,ho2,?_⟩
  rw [e]
  exact h2 hw
noncomputable def sIx (n d:Nat):Option Int→Nat
 | none=>d
 | some v=>if v<0 then (v+(n:Int)).toNat else min v.toNat n
theorem wK (n d:Nat)(hd:d≤n)(o:Option Int):sIx n d o≤n:=by
 cases o with
 | none=>exact hd
 | some v=>
  show (if v<0 then (v+(n:Int)).toNat else min v.toNat n)≤n
  by_cases hv:v<0
  ·rw [if_pos hv];omega
  ·rw [if_neg hv];exact Nat.min_le_right _ _
theorem pE (v:Int)(n d:Nat):(if v<0 then max (v+(n:Int)) 0 else min v (n:Int))=((sIx n d (some v):Nat):Int):=by
 show (if v<0 then max (v+(n:Int)) 0 else min v (n:Int))=(((if v<0 then (v+(n:Int)).toNat else min v.toNat n):Nat):Int)
 by_cases hv:v<0
 ·simp only [if_pos hv];omega
 ·simp only [if_neg hv];omega
theorem oF (lo hi:Option Int)(n:Nat):Builtin.Slice.sliceAdjust lo hi 1 (n:Int)=(((sIx n 0 lo:Nat):Int),((sIx n n hi:Nat):Int)):=by
 have h1:¬ ((1:Int)<0):=by omega
 unfold Builtin.Slice.sliceAdjust
 simp only [h1,if_false]
 refine Prod.ext ?_ ?_
 ·cases lo with
  | none=>rfl
  | some v=>exact pE v n 0
 ·cases hi with
  | none=>rfl
  | some v=>exact pE v n n
theorem oG (i j:Nat):Builtin.Slice.slicePlaces (i:Int) (j:Int) 1=j - i:=by
 unfold Builtin.Slice.slicePlaces
 have h1:(1:Int) > 0:=by omega
 simp only [h1,if_true,Int.ediv_one]
 split <;> omega
theorem iX {v:Value}{o:Option Int}{Q:Option Int→Shared→Prop}(p:IsPart v o)(h:Q o s):wpAny (model prog w) A (Builtin.Slice.slicePartIndex v) Q E s:=by
 cases p with
 | none=>exact slicePart_none h
 | int i t=>exact slicePart_int h
theorem sliceApplied_gen {sl:Addr}{vl vu:Value}{lo hi:Option Int}{n:Nat}{Q:Int × Int × Nat→Shared→Prop}(hs:s.heap.IsSliceOf sl vl vu .none)(pl:IsPart vl lo)(pu:IsPart vu hi)
  (h:Q (((sIx n 0 lo:Nat):Int),1,sIx n n hi - sIx n 0 lo) s):wpAny (model prog w) A (Builtin.Slice.sliceApplied (.ref sl) (pure (n:Int))) Q E s:=by
 obtain ⟨os,hos,hcs,hds⟩:=id hs
 unfold Builtin.Slice.sliceApplied Builtin.Slice.sliceFields
 refine wpAny_bind (wpAny_bind (wpAny_field hos hds (x:=vl) rfl (wpAny_bind (wpAny_field hos hds (x:=vu) rfl (wpAny_bind (wpAny_field hos hds (x := .none) rfl (wpAny_pure ?_)))))))
 refine wpAny_bind (slicePart_none ?_)
 show wpAny _ _ (if ((1:Int) == 0)=true then _ else _) _ _ s
 rw [if_neg (by decide)]
 refine wpAny_bind (iX pl (wpAny_bind (iX pu (wpAny_bind (wpAny_pure ?_)))))
 show wpAny _ _ (match Builtin.Slice.sliceAdjust lo hi 1 (n:Int) with | (lo,hi)=>pure (lo,(1:Int),Builtin.Slice.slicePlaces lo hi 1)) _ _ s
 rw [oF lo hi n]
 show wpAny _ _ (pure (((sIx n 0 lo:Nat):Int),(1:Int),Builtin.Slice.slicePlaces ((sIx n 0 lo:Nat):Int) ((sIx n n hi:Nat):Int) 1)) _ _ s
 rw [oG]
 exact wpAny_pure h
theorem rQ (xs:Array Value)(i k:Nat):((List.range k).filterMap fun (m:Nat)=>xs[((i:Int)+(m:Int)*1).toNat]?).toArray=((xs.toList.drop i).take k).toArray:=by
 have e:(fun (m:Nat)=>xs[((i:Int)+(m:Int)*1).toNat]?)=fun m=>xs[i+m]?:=by
  funext m
  have:((i:Int)+(m:Int)*1).toNat=i+m:=by omega
  rw [this]
 rw [e]
 have:=pick_run xs i k
 rw [List.filterMap_map] at this
 have e2:((fun x=>xs[x]?)∘fun x=>i+x)=fun m=>xs[i+m]?:=rfl
 rw [e2] at this
 rw [this]
theorem getItem_tuple_cut {t sl:Addr}{items:Array Value}{vl vu:Value}{lo hi:Option Int}{Q:Value→Shared→Prop}(ht:IsTup s.heap t items)(hs:s.heap.IsSliceOf sl vl vu .none)(pl:IsPart vl lo)(pu:IsPart vu hi)
  (hw:¬ (sIx items.size 0 lo=0∧sIx items.size items.size hi=items.size))
  (h:Q (.ref s.heap.objs.size) { s with heap:=s.heap.push { cls := .type "tuple",data := .seq ((items.toList.drop (sIx items.size 0 lo)).take (sIx items.size items.size hi - sIx items.size 0 lo)).toArray } })
  (hsz:items.size≤sizeLine):wpAny (model prog w) A (getItem (.ref t) (.ref sl)) Q E s:=by
 have htake:sizeOk (.seq ((items.toList.drop (sIx items.size 0 lo)).take (sIx items.size items.size hi - sIx items.size 0 lo)).toArray):=by
  show ((items.toList.drop (sIx items.size 0 lo)).take (sIx items.size items.size hi - sIx items.size 0 lo)).toArray.size≤sizeLine
  rw [List.size_toArray,List.length_take,List.length_drop,Array.length_toList]
  omega
 have hj:sIx items.size items.size hi≤items.size:=wK _ _ (Nat.le_refl _) hi
 obtain ⟨os,hos,hcs,hds⟩:=id hs
 have hTs:s.TypeIs (.ref sl) "slice":=⟨os,hos,hcs⟩
 unfold getItem
 try with_reducible refine wpAny_holding ?_
 first | refine wpAny_bind (wpAny_pure ?_) | skip
 refine wpAny_bind (wpAny_sequenceKey ht.typeIs (by decide) ?_)
 refine wpAny_bind (wpAny_callSpecial?_slot (name:=Str.ofString "__getitem__") ht.typeIs PyProof.Rows.slot_tuple_getitem
  (wpAny_call_entry PyProof.Rows.slot_tuple_getitem ht.typeIs entry_tuple_getitem ?_ (args_tuple_getitem _ _)))
 show wpAny _ _ (Builtin.Tuple.tupleItemsOf (.ref t) >>= _) _ _ s
 refine wpAny_bind (tupleItemsOf_ ht ?_)
 refine wpAny_bind (wpAny_typeOf hTs ?_)
 rw [if_pos (by decide)]
 refine wpAny_bind (sliceApplied_gen hs pl pu ?_)
 have hno:¬ ((((sIx items.size 0 lo:Nat):Int) == 0 && (1:Int) == 1 && (sIx items.size items.size hi - sIx items.size 0 lo) == items.size)=true):=by
  intro q
  rw [Bool.and_eq_true,Bool.and_eq_true] at q
  have q1:((sIx items.size 0 lo:Nat):Int)=0:=eq_of_beq q.1.1
  have q2:sIx items.size items.size hi - sIx items.size 0 lo=items.size:=eq_of_beq q.2
  exact hw ⟨by omega,by omega⟩
 show wpAny _ _ (if (((sIx items.size 0 lo:Nat):Int) == 0 && (1:Int) == 1 && (sIx items.size items.size hi - sIx items.size 0 lo) == items.size)=true then _ else _) _ _ s
 rw [if_neg hno,rQ]
 first
  | exact wpAny_bind (m:=Builtin.Tuple.tupleExact _) (wpAny_newObj_type (wpAny_pure ⟨_,rfl,wpAny_pure h⟩) htake)
  | exact wpAny_bind (m:=Builtin.Tuple.tupleExact _) (wpAny_newObj_type (wpAny_bind (wpAny_pure (wpAny_pure ⟨_,rfl,wpAny_pure h⟩))) htake)
  | exact wpAny_bind (wpAny_bind (m:=Builtin.Tuple.tupleExact _) (wpAny_newObj_type (wpAny_pure (wpAny_pure ⟨_,rfl,wpAny_pure h⟩)) htake))
  | exact wpAny_bind (wpAny_bind (m:=Builtin.Tuple.tupleExact _) (wpAny_newObj_type (wpAny_pure ⟨_,rfl,wpAny_pure h⟩) htake))
end
end HT
namespace L2
open PySem PySem.Spec PyProof.Rows
noncomputable abbrev TO:=St→Hp→(Option Int→Hp→Prop)→Prop
noncomputable def PO (X:Cx) (e:Option Expr) (t:TO):Prop:=
 ∀ (pins:List (Addr × Obj)) (s:Shared) (σ:St) (H:Hp) (Q:Option Int→Hp→Prop),Inv X pins σ H s→t σ H Q →
  wpAny (model X.prog X.w) X.A (evalPart e X.env) (fun u s'=>∃ o H',Inv X pins σ H' s'∧IsPart u o∧Q o H') X.xe s
noncomputable def pT:TO:=fun _ H Q=>Q none H
noncomputable def wS (t:TE):TO:=fun σ H Q=>t σ H fun x H1=>∃ i,x = .int i∧Q (some i) H1
theorem iR {ns:List Int}:∀ {us:List Value},Vals (ns.map V.int) us→IntsAre us ns:=by
 induction ns with
 | nil=>intro us r;rw [List.map_nil] at r;cases r;exact .nil
 | cons n ns ih=>
  intro us r
  rw [List.map_cons] at r
  cases r with
  | cons r1 r2=>
   obtain ⟨t,e⟩:=r1
   subst e
   exact .cons n t (ih r2)
section
variable {X:Cx}{e:Expr}{te:TE}{lo hi:Option Expr}{tl th:TO}{pos p2:Pos}
theorem tW:PO X none pT:=by
 intro pins s σ H Q I h
 rw [evalPart_none]
 exact wpAny_pure ⟨none,H,I, .none,h⟩
theorem tR (h:PE X e te):PO X (some e) (wS te):=by
 intro pins s σ H Q I hw
 rw [evalPart_some]
 refine thn (h pins s σ H _ I hw) fun u s1 ⟨x,H1,I1,r1,q1⟩=>?_
 obtain ⟨i,rfl,q⟩:=q1
 obtain ⟨t,rfl⟩:=r1
 exact ⟨some i,H1,I1, .int i t,q⟩
noncomputable def SlR (X:Cx) (r:V→Option Int→Option Int→Hp→VK→Prop):Prop:=
 ∀ (pins:List (Addr × Obj)) (s:Shared) (σ:St) (H:Hp) (x:V) (v vl vu:Value) (lo hi:Option Int) (sl:Addr) (Q:VK),Inv X pins σ H s→RelV x v→s.heap.IsSliceOf sl vl vu .none→IsPart vl lo→IsPart vu hi→r x lo hi H Q →
  ∃ T id,typeLookup (.type T) "__getitem__" = pure (some (.builtin id))∧s.TypeIs v T∧wpAny (model X.prog X.w) X.A (getItem v (.ref sl)) (EP X pins σ Q) X.xe s
theorem SlR.or {r r':V→Option Int→Option Int→Hp→VK→Prop}(h:SlR X r)(h':SlR X r'):SlR X (fun x lo hi H Q=>r x lo hi H Q∨r' x lo hi H Q):=by
 intro pins s σ H x v vl vu lo hi sl Q I rx hs pl pu q
 rcases q with q | q
 ·exact h pins s σ H x v vl vu lo hi sl Q I rx hs pl pu q
 ·exact h' pins s σ H x v vl vu lo hi sl Q I rx hs pl pu q
noncomputable def tSl (r:V→Option Int→Option Int→Hp→VK→Prop) (te:TE) (tl th:TO):TE:=fun σ H Q=>te σ H fun x H1=>tl σ H1 fun l H2=>th σ H2 fun u H3=>r x l u H3 Q
theorem sC {r:V→Option Int→Option Int→Hp→VK→Prop}(hr:SlR X r)(he:PE X e te)(hl:PO X lo tl)(hu:PO X hi th):PE X (.Subscript e (.Slice lo hi none p2) pos) (tSl r te tl th):=by
 intro pins s σ H Q I h
 refine Subscript_ (thn (he pins s σ H _ I h) fun v s1 ⟨x,H1,I1,r1,q1⟩=>?_)
 refine wpAny_Slice (thn (hl pins s1 σ H1 _ I1 q1) fun vl s2 ⟨l,H2,I2,pl,q2⟩=>thn (hu pins s2 σ H2 _ I2 q2) fun vu s3 ⟨u,H3,I3,pu,q3⟩=>?_)
 rw [evalPart_none]
 refine wpAny_pure ?_
 have I4:Inv X pins σ H3 { s3 with heap:=s3.heap.push { cls := .type "slice",data := .fields #[vl,vu, .none] } }:=I3.kept (t':=s3.toks) fun b ob q=>Heap.get?_push_of_some _ q
 obtain ⟨T,id,hT,ht,hg⟩:=hr pins { s3 with heap:=s3.heap.push { cls := .type "slice",data := .fields #[vl,vu, .none] } } σ H3 x v vl vu l u s3.heap.objs.size Q I4 r1 (Heap.IsSliceOf.new ..) pl pu q3
 show wpAny (model X.prog X.w) X.A (subscriptTail e (.Slice lo hi none p2) v (.ref s3.heap.objs.size)) (EP X pins σ Q) X.xe { s3 with heap:=s3.heap.push { cls := .type "slice",data := .fields #[vl,vu, .none] } }
 exact tail_any (ops:=[.ref s3.heap.objs.size,v]) ht hT hg (by with_unfolding_all rfl)
noncomputable def oW (xs:List V) (lo hi:Option Int):List V:=(xs.drop (HT.sIx xs.length 0 lo)).take (HT.sIx xs.length xs.length hi - HT.sIx xs.length 0 lo)
theorem iA (xs:List V)(lo hi:Option Int):(oW xs lo hi).length≤xs.length:=by
 unfold oW
 rw [List.length_take,List.length_drop]
 omega
noncomputable def zZ (K:PySem.W.Frag):V→Option Int→Option Int→Hp→VK→Prop:=fun x lo hi H Q=>∃ a xs,x = .ref a∧SqT K H a xs ∧
 ¬ (HT.sIx xs.length 0 lo=0∧HT.sIx xs.length xs.length hi=xs.length)∧∀ p,H p=none→Q (.ref p) (upd H p (.tup (oW xs lo hi)))
theorem wB:SlR X (zZ X.K):=by
 intro pins s σ H x v vl vu lo hi sl Q I rx hs pl pu h
 obtain ⟨a,xs,rfl,hx,hw,q⟩:=h
 cases rx
 obtain ⟨its,r,ht,hz⟩:=I.tuple hx
 have hlen:its.toArray.size=xs.length:=by rw [List.size_toArray];exact r.length.symm
 refine ⟨"tuple",_,PyProof.Rows.slot_tuple_getitem.lookup,ht.typeIs,?_⟩
 refine HT.getItem_tuple_cut ht hs pl pu (by rw [hlen];exact hw) ?_ (by rw [hlen];exact hz)
 rw [hlen]
 refine ⟨.ref s.heap.objs.size,_,I.laid (t':=s.toks) (o := .tup (oW xs lo hi)) (fun b ob q=>Heap.get?_push_of_some _ q) (Nat.le_refl _) ?_,rfl,q _ (I.hok.fresh (Nat.le_refl _))⟩
 exact ⟨Nat.le_trans (iA xs lo hi) hz,_,(r.drop (HT.sIx xs.length 0 lo)).take (HT.sIx xs.length xs.length hi - HT.sIx xs.length 0 lo),TupN.new _ _⟩
noncomputable def yF (K:PySem.W.Frag):R2:=fun x y H Q=>∃ a b xs ys,x = .ref a∧y = .ref b∧SqT K H a xs∧SqT K H b ys∧xs≠[]∧xs.length+ys.length≤sizeLine ∧
 (ys=[]→Q (.ref a) H)∧(ys≠[]→∀ p,H p=none→Q (.ref p) (upd H p (.tup (xs++ys))))
theorem Vals.nil_iff {xs:List V}{us:List Value}(r:Vals xs us):us=[]↔xs=[]:=by
 cases r with
 | nil=>simp
 | cons _ _=>simp
theorem uZ:OpR X (binaryOp .Add) (yF X.K):=by
 intro pins s σ H x y v u Q I rx ry h
 obtain ⟨a,b,xs,ys,rfl,rfl,ha,hb,hx,hz,q1,q2⟩:=h
 cases rx
 cases ry
 obtain ⟨its,r1,p1,_⟩:=I.tuple ha
 obtain ⟨its2,r2,p2,_⟩:=I.tuple hb
 refine HT.cat_tup p1 p2 (fun z=>hx (r1.nil_iff.mp z)) (fun z=>⟨.ref a,H,I,rfl,q1 (r2.nil_iff.mp z)⟩) (fun z=>?_) (by rw [← r1.length,← r2.length];exact hz)
 refine ⟨.ref s.heap.objs.size,_,I.laid (t':=s.toks) (o := .tup (xs++ys)) (fun b ob q=>Heap.get?_push_of_some _ q) (Nat.le_refl _) ?_,rfl,q2 (fun w=>z (r2.nil_iff.mpr w)) _ (I.hok.fresh (Nat.le_refl _))⟩
 exact ⟨by rw [List.length_append];exact hz,_,r1.append r2,TupN.new _ _⟩
end
end L2
namespace L2
open PySem PySem.Spec PyProof.Rows
noncomputable def ixN (n:Nat) (i:Int):Option Nat:=if 0≤i then (if i<n then some i.toNat else none) else if -(n:Int)≤i then some (i+n).toNat else none
noncomputable def atI {α:Type} (xs:List α) (i:Int):Option α:=(ixN xs.length i).bind fun j=>xs[j]?
theorem oO {n:Nat}{i:Int}{j:Nat}(h:ixN n i=some j):seqIndex? i n=some j∧j<n∧-(n:Int)≤i∧i<n:=by
 unfold ixN at h
 by_cases h0:0≤i
 ·rw [if_pos h0] at h
  by_cases h1:i<n
  ·rw [if_pos h1] at h
   have e:i.toNat=j:=Option.some.inj h
   exact ⟨by rw [seqIndex_of h0 h1,e],by omega,by omega,h1⟩
  ·rw [if_neg h1] at h;cases h
 ·rw [if_neg h0] at h
  by_cases h1:-(n:Int)≤i
  ·rw [if_pos h1] at h
   have e:(i+n).toNat=j:=Option.some.inj h
   exact ⟨by rw [seqIndex_neg (by omega) h1,e],by omega,h1,by omega⟩
  ·rw [if_neg h1] at h;cases h
theorem oY {α:Type}{xs:List α}{i:Int}{v:α}(h:atI xs i=some v):∃ j,seqIndex? i xs.length=some j∧xs[j]?=some v∧j<xs.length∧-(xs.length:Int)≤i∧i<xs.length:=by
 unfold atI at h
 cases e:ixN xs.length i with
 | none=>rw [e] at h;cases h
 | some j=>
  rw [e] at h
  obtain ⟨h1,h2,h3,h4⟩:=oO e
  exact ⟨j,h1,h,h2,h3,h4⟩
theorem pU {α:Type}{xs:List α}{j:Nat}{v:α}(h:xs[j]?=some v):atI xs (j:Int)=some v:=by
 have hj:j<xs.length:=(List.getElem?_eq_some_iff.mp h).1
 have e:ixN xs.length (j:Int)=some j:=by
  unfold ixN
  rw [if_pos (by omega),if_pos (by omega)];simp
 unfold atI;rw [e];exact h
noncomputable def uE (b:Expr):Prop:=∀ o i,subscripted b false o i=operate [o,i] (getItem o i)
noncomputable def IxR (X:Cx) (r:R2):Prop:=
 ∀ (value slice:Expr) (pins:List (Addr × Obj)) (s:Shared) (σ:St) (H:Hp) (x y:V) (v u:Value) (Q:VK),Inv X pins σ H s→RelV x v→RelV y u→r x y H Q →
  subscripted slice false v u=operate [v,u] (getItem v u)→wpAny (model X.prog X.w) X.A (subscriptTail value slice v u) (EP X pins σ Q) X.xe s
noncomputable def MtR (X:Cx) (id:String) (r:V→List V→Hp→VK→Prop):Prop:=
 ∀ (pins:List (Addr × Obj)) (s:Shared) (σ:St) (H:Hp) (x:V) (xs:List V) (v:Value) (us:List Value) (Q:VK),Inv X pins σ H s→RelV x v→Vals xs us→r x xs H Q →
  wpAny (model X.prog X.w) X.A (call (.builtin id) (v :: us)) (EP X pins σ Q) X.xe s
section
variable {X:Cx}{a b:Expr}{ta tb:TE}{pos:Pos}
theorem IxR.or {r r':R2}(h:IxR X r)(h':IxR X r'):IxR X (fun x y H Q=>r x y H Q∨r' x y H Q):=by
 intro value slice pins s σ H x y v u Q I rx ry q hs
 rcases q with q | q
 ·exact h value slice pins s σ H x y v u Q I rx ry q hs
 ·exact h' value slice pins s σ H x y v u Q I rx ry q hs
theorem dB {r:R2}(hr:IxR X r)(ha:PE X a ta)(hb:PE X b tb)(hs:uE b):PE X (.Subscript a b pos) (tOp r ta tb):=by
 intro pins s σ H Q I h
 exact Subscript_ (yC ha hb I h fun v u s2 x y H2 I2 rx ry q=>hr a b pins s2 σ H2 x y v u Q I2 rx ry q (hs _ _))
noncomputable def xO (K:PySem.W.Frag):R2:=fun x y H Q=>∃ p xs i v,x = .ref p∧y = .int i∧SqL K H p xs∧atI xs i=some v∧Q v H
noncomputable def xS (K:PySem.W.Frag):R2:=fun x y H Q=>∃ p xs i v,x = .ref p∧y = .int i∧SqT K H p xs∧atI xs i=some v∧Q v H
theorem tY:IxR X (xO X.K):=by
 intro value slice pins s σ H x y v u Q I rx ry h hs
 obtain ⟨p,xs,i,z,rfl,rfl,hq,he,q⟩:=h
 cases rx
 obtain ⟨t,rfl⟩:=ry
 obtain ⟨its,r,pl,hz⟩:=I.list hq
 obtain ⟨j,h1,h2,h3,h4,h5⟩:=oY he
 obtain ⟨w,ew,rw'⟩:=r.get h2
 have hl:=r.length
 have hn:=lO
 have fin:EP X pins σ Q w s:=⟨z,H,I,rw',q⟩
 by_cases h0:0≤i
 ·have hj:i.toNat=j:=by
   rw [seqIndex_of h0 h5] at h1
   exact Option.some.inj h1
  exact item_listR pl.isList h0 (by omega) (by rw [hj];simpa using ew) fin hs
 ·have hj:(i+(its.toArray.size:Int)).toNat=j:=by
   rw [seqIndex_neg (by omega) h4] at h1
   rw [List.size_toArray,← hl]
   exact Option.some.inj h1
  exact subscriptTail_builtinR (x:=w) pl.isList.typeIs slot_list_getitem.lookup
   (wpAny_getItem_list_neg (Q:=fun r s'=>r=w∧EP X pins σ Q r s') pl.isList (by omega) (by rw [List.size_toArray] <;> omega) (by omega) (by rw [hj];simpa using ew) ⟨rfl,fin⟩) hs
theorem wH:IxR X (xS X.K):=by
 intro value slice pins s σ H x y v u Q I rx ry h hs
 obtain ⟨p,xs,i,z,rfl,rfl,hq,he,q⟩:=h
 cases rx
 obtain ⟨t,rfl⟩:=ry
 obtain ⟨its,r,pl,hz⟩:=I.tuple hq
 obtain ⟨j,h1,h2,h3,h4,h5⟩:=oY he
 obtain ⟨w,ew,rw'⟩:=r.get h2
 have hl:=r.length
 have hn:=lO
 have fin:EP X pins σ Q w s:=⟨z,H,I,rw',q⟩
 exact subscriptTail_builtinR (x:=w) pl.typeIs slot_tuple_getitem.lookup
  (getItem_tuple (j:=j) (Q:=fun r s'=>r=w∧EP X pins σ Q r s') pl (by omega) (by omega) (by rw [List.size_toArray,← hl];exact h1) (by simpa using ew) ⟨rfl,fin⟩) hs
theorem nR (its:List Value)(n j:Nat)(u:Value):Obj.mapSeq (·.setIfInBounds j u) { cls := .type "list",data := .seq its.toArray n }={ cls := .type "list",data := .seq (its.set j u).toArray n }:=by
 simp [Obj.mapSeq]
theorem Inv.lst {pins:List (Addr × Obj)}{σ:St}{H:Hp}{s:Shared}{p:Addr}{xs:List V}(I:Inv X pins σ H s)(h:H p=some (.lst xs)) :
  ∃ (its:List Value) (n:Nat),Vals xs its∧s.heap.get? p=some { cls := .type "list",data := .seq its.toArray n }∧xs.length≤sizeLine:=by
 obtain ⟨z,its,n,r,e⟩:=I.hok p _ h
 exact ⟨its,n,r,e,z⟩
theorem Inv.lstUpd {pins:List (Addr × Obj)}{σ:St}{H:Hp}{s:Shared}{p:Addr}{xs ys:List V}{its its':List Value}{n n':Nat}{f:Obj→Obj}(I:Inv X pins σ H s)(h:H p=some (.lst xs))
  (ho:s.heap.get? p=some { cls := .type "list",data := .seq its.toArray n }) (hf:f { cls := .type "list",data := .seq its.toArray n }={ cls := .type "list",data := .seq its'.toArray n' }) (r:Vals ys its') (hz:ys.length≤sizeLine) (t:Nat) :
  Inv X pins σ (upd H p (.lst ys)) { s with heap:=s.heap.update p f,toks:=t }:=by
 have e:(s.heap.update p f).get? p=some { cls := .type "list",data := .seq its'.toArray n' }:=by
  rw [Heap.get?_update_self f ho (by rw [hf] <;> rfl),hf]
 refine I.write (x:=p) (e:=p) (by rw [h];trivial) (.inl rfl) (fun b u hb q=>(Heap.get?_update_other _ _ (Ne.symm hb)).trans q) ⟨_,e⟩ ?_
 exact ⟨hz,its',n',r,e⟩
noncomputable def iE:V→V→V→Hp→(Hp→Prop)→Prop:=fun o i v H Q=>∃ p xs k j,o = .ref p∧i = .int k∧H p=some (.lst xs)∧ixN xs.length k=some j∧Q (upd H p (.lst (xs.set j v)))
theorem eN:yQ X iE:=by
 intro pins s σ H o i v ov iv u Q I ro ri rv h
 obtain ⟨p,xs,k,j,rfl,rfl,hp,hj,q⟩:=h
 cases ro
 obtain ⟨t,rfl⟩:=ri
 obtain ⟨its,n,r,ho,hz⟩:=I.lst hp
 obtain ⟨h1,h2,h3,h4⟩:=oO hj
 have hl:=r.length
 have hn:=lO
 have I':Inv X pins σ (upd H p (.lst (xs.set j v))) { s with heap:=s.heap.update p (Obj.mapSeq (·.setIfInBounds j u)) }:=
  I.lstUpd hp ho (nR its n j u) (r.set rv j) (by rw [List.length_set];exact hz) s.toks
 by_cases h0:0≤k
 ·have hk:k.toNat=j:=by
   rw [seqIndex_of h0 h4] at h1
   exact Option.some.inj h1
  exact PySem.W.ki_setAt ho h0 (by omega) (by rw [List.size_toArray,← hl];exact h4) (by rw [hk];exact ⟨_,I',q⟩)
 ·have hk:(k+(its.toArray.size:Int)).toNat=j:=by
   rw [seqIndex_neg (by omega) h3] at h1
   rw [List.size_toArray,← hl]
   exact Option.some.inj h1
  exact PySem.W.ki_setBack ho (by omega) (by rw [List.size_toArray,← hl];exact h3) (by omega) (by rw [hk];exact ⟨_,I',q⟩)
theorem kZ (lo hi:Option Int)(n:Nat):(sliceBounds lo hi none n).1=((HT.sIx n 0 lo:Nat):Int)∧(sliceBounds lo hi none n).2.1=((HT.sIx n n hi:Nat):Int)∧(sliceBounds lo hi none n).2.2=1:=by
 refine ⟨?_,?_,rfl⟩
 ·cases lo with
  | none=>simp [sliceBounds,HT.sIx]
  | some i=>
   simp only [sliceBounds,HT.sIx,Option.getD_none,show (1:Int) > 0 by decide,if_true]
   by_cases h:i<0
   ·simp only [h,if_true] <;> omega
   ·simp only [h,if_false] <;> omega
 ·cases hi with
  | none=>simp [sliceBounds,HT.sIx]
  | some i=>
   simp only [sliceBounds,HT.sIx,Option.getD_none,show (1:Int) > 0 by decide,if_true]
   by_cases h:i<0
   ·simp only [h,if_true] <;> omega
   ·simp only [h,if_false] <;> omega
theorem jH (its:List Value)(lo hi:Option Int):slicePick its.toArray lo hi none=((its.drop (HT.sIx its.length 0 lo)).take (HT.sIx its.length its.length hi - HT.sIx its.length 0 lo)).toArray:=by
 obtain ⟨h1,h2,h3⟩:=kZ lo hi its.toArray.size
 unfold slicePick
 rw [h1,h2,h3]
 simp only [sliceRange_one,pick_run,List.size_toArray] <;> rfl
noncomputable def zG (K:PySem.W.Frag):V→Option Int→Option Int→Hp→VK→Prop:=fun x lo hi H Q=>∃ a xs,x = .ref a∧SqL K H a xs∧∀ p,H p=none→Q (.ref p) (upd H p (.lst (oW xs lo hi)))
theorem tN:SlR X (zG X.K):=by
 intro pins s σ H x v vl vu lo hi sl Q I rx hs pl pu h
 obtain ⟨a,xs,rfl,hx,q⟩:=h
 cases rx
 obtain ⟨its,r,ht,hz⟩:=I.list hx
 have hlen:=r.length
 refine ⟨"list",_,slot_list_getitem.lookup,ht.isList.typeIs,?_⟩
 refine wpAny_getItem_list_slice ht.isList hs pl pu .none (by simp) ?_ (by rw [List.size_toArray] <;> omega)
 rw [jH,← hlen]
 refine ⟨.ref s.heap.objs.size,_,I.laid (t':=s.toks) (o := .lst (oW xs lo hi)) (fun b ob q=>Heap.get?_push_of_some _ q) (Nat.le_refl _) ?_,rfl,q _ (I.hok.fresh (Nat.le_refl _))⟩
 exact ⟨Nat.le_trans (iA xs lo hi) hz,_,0,(r.drop (HT.sIx xs.length 0 lo)).take (HT.sIx xs.length xs.length hi - HT.sIx xs.length 0 lo),Heap.get?_push_size _ rfl⟩
theorem kN:CallR X (.builtin "len") (fun xs H Q=>∃ p ys,xs=[.ref p]∧(SqL X.K H p ys∨SqT X.K H p ys)∧Q (.int ys.length) H):=by
 intro pins s σ H xs us Q I r h
 obtain ⟨p,ys,rfl,hq,q⟩:=h
 obtain ⟨u,rfl,rx⟩:=iO r
 cases rx
 have hn:=lO
 rcases hq with hq | hq
 ·obtain ⟨its,r',pl,hz⟩:=I.list hq
  have hlen:=r'.length
  exact Calls.call_len_list pl.isList (by simp only [List.size_toArray] <;> omega) ⟨.int ys.length,H,I.tok _,⟨s.toks+1,by rw [List.size_toArray,hlen]⟩,q⟩
 ·obtain ⟨its,r',pl,hz⟩:=I.tuple hq
  have hlen:=r'.length
  exact len_tuple pl (by simp only [List.size_toArray] <;> omega) ⟨.int ys.length,H,I.tok _,⟨s.toks+1,by rw [List.size_toArray,hlen]⟩,q⟩
theorem lL:CallR X (.builtin "len") (fun xs H Q=>∃ z,xs=[.str z]∧z.length≤sizeLine∧Q (.int z.length) H):=by
 intro pins s σ H xs us Q I r h
 obtain ⟨z,rfl,hz,q⟩:=h
 obtain ⟨u,rfl,t,rfl⟩:=iO r
 have hn:=lO
 exact len_str (by omega) ⟨.int z.length,H,I.tok _,⟨_,rfl⟩,q⟩
theorem CallR.or {f:Value}{r r':List V→Hp→VK→Prop}(h:CallR X f r)(h':CallR X f r'):CallR X f (fun xs H Q=>r xs H Q∨r' xs H Q):=by
 intro pins s σ H xs us Q I rs q
 rcases q with q | q
 ·exact h pins s σ H xs us Q I rs q
 ·exact h' pins s σ H xs us Q I rs q
theorem kO:CallR X (.type "list") (fun xs H Q=>∃ p ys,xs=[.ref p]∧(SqL X.K H p ys∨SqT X.K H p ys)∧∀ l,H l=none→Q (.ref l) (upd H l (.lst ys))):=by
 intro pins s σ H xs us Q I r h
 obtain ⟨p,ys,rfl,hq,q⟩:=h
 obtain ⟨u,rfl,rx⟩:=iO r
 cases rx
 have fin:∀ (its:List Value),Vals ys its→ys.length≤sizeLine→∀ (h':Heap) (c':Nat),(∀ b o',s.heap.get? b=some o'→h'.get? b=some o') →
   h'.get? s.heap.objs.size=some { cls := .type "list",dict:=none,data := .seq its.toArray c',slots:=#[] }→EP X pins σ Q (.ref s.heap.objs.size) { s with heap:=h' }:=fun its r' hz h' c' kp e=>
  ⟨.ref s.heap.objs.size,_,I.laid (t':=s.toks) kp (Nat.le_refl _) (show ObjOk X.prog X.w _ h' _ (.lst ys) from ⟨hz,its,c',r',e⟩),rfl,q _ (I.hok.fresh (Nat.le_refl _))⟩
 rcases hq with hq | hq
 ·obtain ⟨its,r',pl,hz⟩:=I.list hq
  have hlen:=r'.length
  obtain ⟨o,ho,hc,n,hd⟩:=pl.isList
  exact call_list_seq p (.inl rfl) ho hc hd (fun h' c' kp e=>fin its r' hz h' c' kp e) (by simp only [List.size_toArray] <;> omega)
 ·obtain ⟨its,r',pl,hz⟩:=I.tuple hq
  have hlen:=r'.length
  obtain ⟨o,ho,hc,n,hd⟩:=pl
  exact call_list_seq p (.inr rfl) ho hc hd (fun h' c' kp e=>fin its r' hz h' c' kp e) (by simp only [List.size_toArray] <;> omega)
theorem jN:CallR X (.type "tuple") (fun xs H Q=>∃ p ys,xs=[.ref p]∧((SqL X.K H p ys∧∀ l,H l=none→Q (.ref l) (upd H l (.tup ys)))∨(SqT X.K H p ys∧Q (.ref p) H))):=by
 intro pins s σ H xs us Q I r h
 obtain ⟨p,ys,rfl,h⟩:=h
 obtain ⟨u,rfl,rx⟩:=iO r
 cases rx
 rcases h with ⟨hq,q⟩ | ⟨hq,q⟩
 ·obtain ⟨its,r',pl,hz⟩:=I.list hq
  have hlen:=r'.length
  refine call_tuple_list pl.isList (fun h' kp=>?_) (by simp only [List.size_toArray] <;> omega)
  have I1:Inv X pins σ H { s with heap:=h' }:=I.kept (t':=s.toks) kp
  have I2:Inv X pins σ (upd H h'.objs.size (.tup ys)) { s with heap:=h'.push { cls := .type "tuple",data := .seq its.toArray } }:=
   I1.laid (t':=s.toks) (fun b o e=>Heap.get?_push_of_some _ e) (Nat.le_refl _) (show ObjOk X.prog X.w _ _ _ (.tup ys) from ⟨hz,its,r',TupN.new _ _⟩)
  exact ⟨.ref h'.objs.size,_,I2,rfl,q _ (I1.hok.fresh (Nat.le_refl _))⟩
 ·obtain ⟨its,r',pl,hz⟩:=I.tuple hq
  exact call_tuple_same pl ⟨.ref p,H,I,rfl,q⟩
noncomputable def tyV (K:PySem.W.Frag) (T:String) (x:V) (H:Hp):Prop:=match x with
 | .str _=>T="str"
 | .int _=>T="int"
 | .ref p=>(T="list"∧∃ xs,SqL K H p xs)∨(T="tuple"∧∃ o,K.lookup p=some o∧o.cls = .type "tuple"∧o.dict=none) ∨
   (T="dict"∧((∃ kvs,H p=some (.dK kvs))∨∃ kvs,H p=some (.dT kvs)))∨(T="set"∧∃ S n,H p=some (.set S n))
 | _=>False
theorem tL {pins:List (Addr × Obj)}{σ:St}{H:Hp}{s:Shared}{T:String}{x:V}{v:Value}(I:Inv X pins σ H s)(r:RelV x v)(ty:tyV X.K T x H) :
  s.TypeIs v T∧∀ a,v = .ref a→∃ ob,s.heap.get? a=some ob∧ob.dict=none:=by
 cases x with
 | str z=>
  obtain ⟨t,rfl⟩:=r
  cases (show T="str" from ty)
  exact ⟨typeIs_str s z t,fun _ e=>nomatch e⟩
 | int i=>
  obtain ⟨t,rfl⟩:=r
  cases (show T="int" from ty)
  exact ⟨typeIs_int s i t,fun _ e=>nomatch e⟩
 | ref p=>
  cases r
  rcases ty with ⟨rfl,xs,hq⟩ | ⟨rfl,o,hk,hc,hd⟩ | ⟨rfl,hk⟩ | ⟨rfl,S,n,hk⟩
  ·obtain ⟨its,_,pl,_⟩:=I.list hq
   refine ⟨pl.isList.typeIs,fun a e=>?_⟩
   cases e
   obtain ⟨o,n,e,c,hd,_⟩:=pl
   exact ⟨o,e,hd⟩
  ·refine ⟨⟨o,I.kIn p o hk,hc⟩,fun a e=>?_⟩
   cases e
   exact ⟨o,I.kIn _ o hk,hd⟩
  ·have z:∃ o,s.heap.get? p=some o∧o.ExactDict:=by
    rcases hk with ⟨kvs,hk⟩ | ⟨kvs,hk⟩
    ·obtain ⟨_,_,_,_,o,_,_,e,ex,_⟩:=I.hok p _ hk
     exact ⟨o,e,ex⟩
    ·obtain ⟨_,_,_,_,o,_,_,e,ex,_⟩:=I.hok p _ hk
     exact ⟨o,e,ex⟩
   obtain ⟨o,e,ex⟩:=z
   refine ⟨⟨o,e,ex.1⟩,fun a e2=>?_⟩
   cases e2
   exact ⟨o,e,ex.2.1⟩
  ·obtain ⟨o,_,_,_,e,ex,_⟩:=I.hok p _ hk
   refine ⟨⟨o,e,ex.1⟩,fun a e2=>?_⟩
   cases e2
   exact ⟨o,e,ex.2.1⟩
 | _=>exact False.elim ty
noncomputable def xQ (K:PySem.W.Frag) (T:String) (r:V→List V→Hp→VK→Prop) (to:TE):TE:=fun σ H Q=>to σ H fun x H1=>tyV K T x H1∧r x [] H1 Q
noncomputable def tBM (K:PySem.W.Frag) (T:String) (r:V→List V→Hp→VK→Prop) (to:TE) (t:TA):TE:=fun σ H Q=>to σ H fun x H1=>tyV K T x H1∧t σ H1 fun xs H2=>r x xs H2 Q
variable {o e:Expr}{es:List Expr}{to:TE}{t:TA}{name:Str}{apos cpos:Pos}{T id:String}{r:V→List V→Hp→VK→Prop}
theorem vT (pa:PlainAttrs T)(slot:Slot T name id)(hty:typeOf (.builtin id)=pure (.type "method_descriptor"))(hm:MtR X id r)(ho:PE X o to)
  (hbase:attributeBase o name X.env (eval o X.env)=eval o X.env:=by rfl) (hline:(apos.endLine == cpos.line)=true:=by rfl):PE X (.Call (.Attribute o name apos) [] [] cpos) (xQ X.K T r to):=by
 intro pins s σ H Q I h
 refine wpAny_Call_method0_late hbase hline (thn (ho pins s σ H _ I h) fun v s1 ⟨x,H1,I1,r1,ty,q1⟩=>?_)
 obtain ⟨h1,h2⟩:=tL I1 r1 ty
 exact ⟨T,id,pa,slot,hty,h1,h2,Calls.callWith_builtin rfl (PySem.evalArgs_none (hm pins s1 σ H1 x [] v [] Q I1 r1 .nil q1))⟩
theorem yK (pa:PlainAttrs T)(slot:Slot T name id)(hty:typeOf (.builtin id)=pure (.type "method_descriptor"))(hm:MtR X id r)(ho:PE X o to)(ha:PA X (e :: es) t)
  (hbase:attributeBase o name X.env (eval o X.env)=eval o X.env:=by rfl)
  (hfew:((backTo cpos (starEach (e :: es) X.env)).all (fun x=>!x.1) && (backToKw cpos (keywordEach [] X.env)).all (fun x=>x.1.isSome)
   && decide ((e :: es).length+([]:List Keyword).length+(if ([]:List Keyword).isEmpty then 0 else 1)<30))=true:=by rfl)
  (hline:(apos.endLine == cpos.line)=true:=by rfl) (hs:starEach (e :: es) X.env=(false,eval e X.env) :: starEach es X.env:=by rfl) (hplain:(backTo cpos (starEach es X.env)).any (·.1)=false:=by rfl) :
  PE X (.Call (.Attribute o name apos) (e :: es) [] cpos) (tBM X.K T r to t):=by
 intro pins s σ H Q I h
 refine wpAny_Call_method_late hbase hfew hline rfl (thn (ho pins s σ H _ I h) fun v s1 ⟨x,H1,I1,r1,ty,q1⟩=>?_)
 obtain ⟨h1,h2⟩:=tL I1 r1 ty
 refine ⟨T,id,pa,slot,hty,h1,h2,?_⟩
 have hA:=ha cpos pins s1 σ H1 _ I1 q1
 rw [hs] at hA ⊢
 refine Calls.callWith_builtin (by show (false || (backTo cpos (starEach es X.env)).any (·.1))=false;rw [hplain] <;> rfl) (Calls.evalArgs_plain ?_)
 exact thn hA fun us s2 ⟨vs,H2,I2,r2,q2⟩=>hm pins s2 σ H2 x vs v us Q I2 r1 r2 q2
end
end L2
namespace L2
open PySem PySem.Spec PyProof.Rows
noncomputable def MtM (X:Cx) (id:String) (r:V→List V→Hp→VK→Prop):Prop:=
 ∀ (pins:List (Addr × Obj)) (s:Shared) (σ:St) (H:Hp) (x:V) (xs:List V) (v:Value) (us:List Value) (Q:VK),Inv X pins σ H s→RelV x v→Vals xs us→r x xs H Q →
  wpAny (model X.prog X.w) X.A (call (.builtin id) (v :: us)) (EP X pins σ Q) X.xe s
theorem Vals.one:∀ {x:V} {us:List Value},Vals [x] us→∃ u,us=[u]∧RelV x u
 | _,_, .cons r .nil=>⟨_,rfl,r⟩
theorem Vals.two:∀ {x y:V} {us:List Value},Vals [x,y] us→∃ u v,us=[u,v]∧RelV x u∧RelV y v
 | _,_,_, .cons r (.cons q .nil)=>⟨_,_,rfl,r,q⟩
theorem Vals.rep {xs:List V}{us:List Value}(h:Vals xs us):∀ k:Nat,Vals (List.replicate k xs).flatten (List.replicate k us).flatten
 | 0 => .nil
 | k+1=>by
  rw [List.replicate_succ,List.replicate_succ,List.flatten_cons,List.flatten_cons]
  exact Vals.append h (Vals.rep h k)
theorem lK (its:List Value):∀ (k:Nat) (acc:List Value),
  List.foldl (fun x1 x2=>x1++x2) acc.toArray (List.replicate k its.toArray)=(acc++(List.replicate k its).flatten).toArray
 | 0,acc=>by simp
 | k+1,acc=>by
  have e:acc.toArray++its.toArray=(acc++its).toArray:=by simp
  have e2:(acc++its)++(List.replicate k its).flatten=acc++(List.replicate (k+1) its).flatten:=by
   rw [List.replicate_succ,List.flatten_cons,List.append_assoc]
  rw [← e2,← lK its k (acc++its),← e,List.replicate_succ,List.foldl_cons]
section
variable {X:Cx}{pins:List (Addr × Obj)}{σ:St}{H:Hp}{s:Shared}{l b:Addr}{xs ys zs:List V}
theorem Inv.lset {its its':List Value}{n:Nat}{f:Array Value→Array Value}{t':Nat}(I:Inv X pins σ H s)(hH:H l=some (.lst xs))
  (e:s.heap.get? l=some { cls := .type "list",data := .seq its.toArray n }) (hf:f its.toArray=its'.toArray) (hv:Vals ys its') (hz:ys.length≤sizeLine) :
  Inv X pins σ (upd H l (.lst ys)) { s with heap:=s.heap.update l (Obj.mapSeq f),toks:=t' }:=by
 have q:=PySem.IsL.update e f
 rw [hf] at q
 refine I.write (x:=l) (e:=l) (by rw [hH];exact trivial) (.inl rfl) (fun b' u hb hu=>(Heap.get?_update_other s.heap (Obj.mapSeq f) (Ne.symm hb)).trans hu) ⟨_,q⟩ ?_
 exact ⟨hz,its',_,hv,q⟩
theorem Inv.lnew {its:List Value}{t':Nat}(I:Inv X pins σ H s)(hv:Vals ys its)(hz:ys.length≤sizeLine) :
  Inv X pins σ (upd H s.heap.objs.size (.lst ys)) { s with heap:=s.heap.push { cls := .type "list",data := .seq its.toArray },toks:=t' }:=
 I.laid (fun _ _ q=>Heap.get?_push_of_some _ q) (Nat.le_refl _) ⟨hz,its,0,hv,Heap.get?_push_size _ rfl⟩
theorem Inv.fresh (I:Inv X pins σ H s):H s.heap.objs.size=none:=I.hok.fresh (Nat.le_refl _)
theorem Inv.lstM (I:Inv X pins σ H s)(hH:H l=some (.lst xs)):xs.length≤sizeLine∧∃ (its:List Value) (n:Nat),Vals xs its∧xs.length=its.length∧s.heap.get? l=some { cls := .type "list",data := .seq its.toArray n }:=by
 obtain ⟨z,its,n,r,e⟩:=I.hok l _ hH
 exact ⟨z,its,n,r,r.length,e⟩
theorem rL {n:Nat}(h:n≤sizeLine):Builtin.List.listTooLong n=false:=by
 unfold Builtin.List.listTooLong
 exact decide_eq_false (by omega)
end
section
variable {X:Cx}
noncomputable def gW:V→List V→Hp→VK→Prop:=fun x vs H Q=>∃ l xs y,x = .ref l∧vs=[y]∧H l=some (.lst xs)∧xs.length<sizeLine∧Q .non (upd H l (.lst (xs++[y])))
theorem dC:MtM X "list.append" gW:=by
 intro pins s σ H x vs v us Q I rx rv h
 obtain ⟨l,xs,y,rfl,rfl,hH,hz,q⟩:=h
 cases rx
 obtain ⟨u,rfl,ru⟩:=rv.one
 obtain ⟨z,its,n,r,hl,e⟩:=I.lstM hH
 refine call_meets F.slot_list_append ⟨_,e,rfl⟩ F.entry_list_append (F.args_list_append_2 _ _) (PySem.list_append l its.toArray n u (by rw [List.size_toArray];omega)) ⟨e,?_⟩
 refine ⟨.non,_,I.lset (its':=its++[u]) hH e (by simp) (r.append (.cons ru .nil)) ?_,rfl,q⟩
 rw [List.length_append,List.length_singleton]
 omega
noncomputable def zH:R2:=fun x y H Q=>∃ l b xs zs,x = .ref l∧y = .ref b∧H l=some (.lst xs)∧H b=some (.lst zs)∧xs.length+zs.length≤sizeLine∧∀ p,H p=none→Q (.ref p) (upd H p (.lst (xs++zs)))
theorem vO:OpR X (binaryOp .Add) zH:=by
 intro pins s σ H x y v u Q I rx ry h
 obtain ⟨l,b,xs,zs,rfl,rfl,hH,hB,hz,q⟩:=h
 cases rx
 cases ry
 obtain ⟨z,its,n,r,hl,e⟩:=I.lstM hH
 obtain ⟨z2,its2,n2,r2,hl2,e2⟩:=I.lstM hB
 refine PySem.P.add_list e e2 ?_ (by rw [List.size_toArray,List.size_toArray];omega)
 have ea:its.toArray++its2.toArray=(its++its2).toArray:=by simp
 rw [ea]
 exact ⟨.ref _,_,I.lnew (t':=s.toks) (r.append r2) (by rw [List.length_append];omega),rfl,q _ I.fresh⟩
noncomputable def yT:R2:=fun x y H Q=>∃ l k xs,x = .ref l∧y = .int k∧H l=some (.lst xs)∧-(2 ^ 63)≤k∧k<2 ^ 63∧xs.length*k.toNat≤sizeLine ∧
 ∀ p,H p=none→Q (.ref p) (upd H p (.lst (List.replicate k.toNat xs).flatten))
theorem uC {α:Type}(xs:List α)(k:Nat):(List.replicate k xs).flatten.length=k*xs.length:=by
 induction k with
 | zero=>simp
 | succ k ih=>rw [List.replicate_succ,List.flatten_cons,List.length_append,ih,Nat.succ_mul,Nat.add_comm]
theorem wO:OpR X (binaryOp .Mult) yT:=by
 intro pins s σ H x y v u Q I rx ry h
 obtain ⟨l,k,xs,rfl,rfl,hH,h1,h2,hz,q⟩:=h
 cases rx
 obtain ⟨t,rfl⟩:=ry
 obtain ⟨z,its,n,r,hl,e⟩:=I.lstM hH
 have hlen:its.toArray.size*k.toNat≤sizeLine:=by rw [List.size_toArray,← hl];exact hz
 have hcap:¬ its.toArray.size*k.toNat > (2 ^ 63 - 1) / 8:=by
  have:(sizeLine:Nat)≤(2 ^ 63 - 1) / 8:=by decide
  omega
 have hfit:¬ (!Builtin.List.listFitsIndex k)=true:=by
  rw [fitsIndex_both h1 h2]
  exact Bool.false_ne_true
 have hlong:¬ Builtin.List.listTooLong (its.toArray.size*k.toNat)=true:=by
  rw [rL hlen]
  exact Bool.false_ne_true
 have hnew:List.foldl (fun x1 x2=>x1++x2) #[] (List.replicate (if its.toArray.isEmpty=true then 0 else k.toNat) its.toArray)=(List.replicate k.toNat its).flatten.toArray:=by
  have f0:∀ m:Nat,List.foldl (fun x1 x2=>x1++x2) #[] (List.replicate m its.toArray)=(List.replicate m its).flatten.toArray:=fun m=>by
   have:=lK its m []
   rw [List.nil_append] at this
   exact this
  rw [f0]
  cases its with
  | nil=>simp
  | cons a r'=>rw [if_neg (by simp)]
 refine wpAny_binaryOp_repeat_ref (T:="list") (U:="int") (by decide) ⟨_,e,rfl⟩ (fun s'=>typeIs_int s' k t) noFill_list_mul F.fills_int_mul F.slot_int_rmul repeat_list F.slot_int_index.lookup
  (call_meets F.slot_int_rmul (typeIs_int s k t) F.entry_int_rmul (F.args_int_rmul_2 _ _) (int___rmul___int_list k t l its.toArray n)
   ⟨e,rfl,⟨_,e,rfl⟩,call_meets F.slot_list_mul ⟨_,e,rfl⟩ F.entry_list_mul (F.args_list_mul_2 _ _) (AutoListH.list___mul___list_int_3 l its.toArray n k t hfit hcap hlong) ⟨e,?_⟩⟩)
 rw [hnew]
 exact ⟨.ref _,_,I.lnew (t':=s.toks) (r.rep k.toNat) (by rw [uC,Nat.mul_comm];exact hz),rfl,q _ I.fresh⟩
end
section
variable {prog:Program}{w:World}{A:Around}{E:Value→Shared→Prop}{s:Shared}
end
section
variable {X:Cx}
end
end L2
namespace Att
open PySem PySem.W PySem.Calls PyProof.Rows
theorem gT {P:Params}{h:Heap}:∀ (ns:List Int) (vs:List Value),WellAll P h vs (ns.map WData.int)→IntsAre vs ns:=by
 intro ns
 induction ns with
 | nil=>
  intro vs w
  rw [List.map_nil] at w
  cases w
  exact .nil
 | cons n ns ih=>
  intro vs w
  rw [List.map_cons] at w
  cases w with
  | cons a b=>
   cases a
   exact .cons _ _ (ih _ b)
theorem oQ {l:OpenLaw}{n:Nat}(hn:l.most=some n){P:Params}{h:Heap}{args:List WData}{vals:List Value}
  (hpre:l.row.toRowW.claim.pre args=true) (hwl:WellAll P h vals args) :
  ∃ a vs ns,vals=[Value.ref a]∧args=[WData.list (ns.map WData.int)]∧h.get? a=some { cls := .type "list",data := .seq vs.toArray }∧IntsAre vs ns∧ns.length≤n:=by
 have hsh:WShape.hasAll [] args [.list .int]=true:=(pre_splitW hpre).1
 have hc:l.pre.holds [] { args:=args }=true:=(pre_splitW hpre).2
 obtain ⟨d,r,rfl,h1,h2⟩:=hasAllW_cons hsh
 obtain rfl:=hasAllW_nil h2
 obtain ⟨xs,rfl,h3⟩:=hasW_list h1
 obtain ⟨ns,rfl⟩:=items_int h3
 have hlen:ns.length≤n:=by
  unfold OpenLaw.pre at hc
  have h4:(WTm.not (.lt (.lit (.int (n:Int))) (.len (.arg 0)))).holds [] { args:=[.list (ns.map .int)] }=true:=by
   have h4:=(holds_andW hc).1
   rw [hn] at h4
   exact h4
  have h5:=condW_of h4 (w_not (w_lt w_lit (w_len_list (w_arg rfl))))
  rw [List.length_map] at h5
  refine Nat.le_of_not_lt fun q=>?_
  have q':(n:Int)<((ns.length:Nat):Int):=by omega
  first
   | (rw [decide_eq_true q'] at h5;exact absurd h5 (by decide))
   | (simp at h5;omega)
 cases hwl with
 | cons w1 w2=>
  cases w2
  cases w1 with
  | list ho hall=>exact ⟨_,_,ns,rfl,rfl,ho,gT ns _ hall,hlen⟩
theorem oP (l:OpenLaw)(args:List WData):l.row.toRowW.claim.post args (.bool true) args=true:=
 postW_of (r:=l.row.toRowW) (X:=(true == true))
  (show WShape.has [] (.bool true) .bool=true by first | rfl | decide | simp [WShape.has,WShape.arms,WShape.armsAll])
  (show (WTm.eq .res (.lit (.bool true))).value [] { args:=args,res:=some (.bool true),after:=args }=some (.bool (true == true)) from w_eq_bool (w_res rfl) w_lit) rfl
theorem attach_call {l:OpenLaw}{n:Nat}{q:Program}{loose:List Str}{XP:(Str→Option Value)→Heap→Prop}{YP:World→Heap→Prop}{d:DefRec}
  (hn:l.most=some n) (hdf:d.params.defaults=[])
  (call:∀ (w:World) (s₀ s₁:Shared) (mg mb:Str→Option Value) (fa:Addr) (o:Obj) (pm cd doc:Value) (a:Addr) (vs:List Value) (ns:List Int),
   Ground q loose [] XP w s₀ mg mb s₁.heap→YP w s₁.heap →
   s₁.heap.get? fa=some o→o.data = .func (docDef d.name d.params d.body d.scope pm cd doc)→s₁.heap.CodeRec cd d.name→mg d.name=some (.ref fa) →
   s₁.heap.get? a=some { cls := .type "list",data := .seq vs.toArray }→IntsAre vs ns→ns.length≤n→s₁.gens=#[] →
   codeAny (model l.prog w) callerA (.call (.ref fa) ⟨[.ref a],[]⟩) (fun r s'=>r = .ok (.ret (.bool true))∧OldK s₁.heap s'.heap∧s'.os=s₁.os∧AllBare s'.gens) s₁) :
  WalkO q loose XP YP l.row.toRowW d [] (fun f vs=>PySem.call f vs):=by
 intro w s₀ s₁ mg mb G Y fa o pm cd doc dV kV ho hd hcd hD hmg hg args vals as hpre hlay hrd hwl hlo
 obtain rfl:dV = .none:=Dflts.none hD hdf
 obtain rfl:kV = .none:=Dflts.noKw hD
 obtain ⟨a,vs,ns,rfl,rfl,hobj,hints,hlen⟩:=oQ hn hpre hwl
 refine enter_call (codeAny_mono (call w s₀ s₁ mg mb fa o pm cd doc a vs ns G Y ho (fd_plain hd) hcd hmg hobj hints hlen hg) fun r s' hq=>?_)
 obtain ⟨rfl,h2,h3,h4⟩:=hq
 exact ⟨.inl ⟨.bool true, .bool true,[],rfl,fun _=>rfl, .bool true,oP l _,fun _=>⟨List.Pairwise.nil,fun _ hm=>(nomatch hm)⟩⟩,h2,h3,h4⟩
section
variable {prog:Program}{w:World}{A:Around}{E:Value→Shared→Prop}{s:Shared}{K:Frag}
end
end Att
namespace L2
open PySem PySem.Spec PyProof.Rows
theorem lR:∀ {vs:List Value} {ns:List Int},IntsAre vs ns→Vals (ns.map V.int) vs
 | _,_, .nil => .nil
 | _,_, .cons n t h => .cons ⟨t,rfl⟩ (lR h)
noncomputable def xV (H:Hp):Prop:=∀ b,H b=none∨∃ o xs,H b=some (.frz o (.lst xs))
theorem sH {P:Program}{w:World}{K:PySem.W.Frag}{mg mb:Str→Option Value}{CX:CXT}{k:Nat}{fa a:Addr}{fd:FuncData}{x:Str}{sp:Sp}{s₁:Shared}{vs:List Value}{ns:List Int}
  (KX:K.In s₁.heap) (hns:s₁.heap.Ns mainGlobals mg) (hb:s₁.heap.Ns builtinsNs mb) (hbb:∀ x:Str,x≠"__name__"→mb x=bootBuiltins x) (hlim:s₁.heap.NoLimit) (hg:s₁.gens=#[])
  (ha:s₁.heap.get? a=some { cls := .type "list",data := .seq vs.toArray }) (hi:IntsAre vs ns) (hl:ns.length≤sizeLine) (hr:Room k callerA)
  (F:∀ base:Heap,K.In base→base.Ns mainGlobals mg→FnOk P w K mg base CX k fa fd [x] sp) (hbind:∀ (s:Shared) (u:Value),BindsTo s fd ⟨[u],[]⟩ [(x,u)])
  (hsp:∀ H:Hp,xV H→SqL K H a (ns.map V.int)→sp [.ref a] H (fun v _=>v = .bl true) fun _ _ _=>False)
  (hCX:∀ H e s',CX [] H s₁ (fun _ _ _=>False) e s'→False) :
  codeAny (model P w) callerA (.call (.ref fa) ⟨[.ref a],[]⟩) (fun r s'=>r = .ok (.ret (.bool true))∧OldK s₁.heap s'.heap∧s'.os=s₁.os∧AllBare s'.gens) s₁:=by
 have rv:=lR hi
 have lenV:=hi.length
 have core:∀ H:Hp,xV H→SqL K H a (ns.map V.int)→HOk P w H s₁.heap→(∀ b,H b≠none→b=a)→(H a≠none→K.lookup a=none) →
   codeAny (model P w) callerA (.call (.ref fa) ⟨[.ref a],[]⟩) (fun r s'=>r = .ok (.ret (.bool true))∧OldK s₁.heap s'.heap∧s'.os=s₁.os∧AllBare s'.gens) s₁:=by
  intro H hO hS hok hA hK
  have base_of:∀ {b:Addr} {o:Obj},s₁.heap.get? b=some o→H b=none→(sE s₁.heap H).get? b=some o:=fun e n=>sU e n
  have noA:∀ {b:Addr} {o:Obj} {es:Array DictEntry} {ep:Nat},s₁.heap.get? b=some o→o.data = .dict es ep→H b=none:=fun {b o es ep} e d=>by
   cases q:H b with
   | none=>rfl
   | some u=>
    have e':b=a:=hA b (by rw [q];simp)
    subst e'
    rw [ha] at e;cases e
    have d':Data.seq vs.toArray _=Data.dict es ep:=d
    cases d'
  have nsK:∀ {b:Addr} {m:Str→Option Value},s₁.heap.Ns b m→(sE s₁.heap H).Ns b m:=fun {b m} ⟨o,es,ep,e,d,r⟩=>⟨o,es,ep,base_of e (noA e d),d,r⟩
  have hKb:K.In (sE s₁.heap H):=fun b o e=>base_of (KX b o e) (by
   cases q:H b with
   | none=>rfl
   | some u=>
    have e':b=a:=hA b (by rw [q];simp)
    subst e'
    rw [hK (by rw [q];simp)] at e;cases e)
  have hM:Mod K mg (sE s₁.heap H):=⟨hKb,nsK hns,⟨mb,nsK hb,hbb⟩,let ⟨mc,h1,h2⟩:=hlim;⟨mc,nsK h1,h2⟩⟩
  have e0:xM P w K mg (sE s₁.heap H) callerA [] s₁ H:=⟨rfl,hM,fun b o e=>tM e,Nat.le_of_eq (pD _ _),trivial,fun b hb=>absurd (show b∈([]:List Addr) from hb) (by simp),hok, .of_eq hg⟩
  refine codeAny_mono ((F _ hKb (nsK hns)).run callerA [] s₁ H ⟨[.ref a],[]⟩ [.ref a] [.ref a] _ _ hr e0 (hbind s₁ (.ref a)) (.cons rfl .nil) (hsp H hO hS)) fun r s' h=>?_
  cases r with
  | error e=>exact (hCX H e s' h).elim
  | ok fl=>
   cases fl with
   | next=>exact False.elim h
   | brk=>exact False.elim h
   | cont=>exact False.elim h
   | ret u=>
    obtain ⟨v,H',os,bare,un,hok',r',q⟩:=h
    have q':v = .bl true:=q
    subst q'
    obtain rfl:u=Value.bool true:=r'
    refine ⟨rfl,OldK.of_keep fun b o e=>?_,os,bare⟩
    cases q:H b with
    | none=>exact un.keep b o e q (by intro z;exact absurd (show b∈([]:List Addr) from z) (by simp)) (by simp)
    | some u=>
     rcases hO b with z | ⟨ob,xs,z⟩
     ·rw [q] at z;cases z
     ·have z2:=un.frzs b ob _ z
      obtain ⟨e1,_⟩:=hok b _ z
      obtain ⟨e2,_⟩:=hok' b _ z2
      rw [e] at e1;cases e1
      exact e2
 cases hk:K.lookup a with
 | some o=>
  have e:=KX a o hk
  rw [ha] at e
  cases e
  refine core (fun _=>none) (fun _ => .inl rfl) (.inr ⟨_,vs.toArray,_,hk,rfl,rfl,rfl,by rw [List.size_toArray,lenV];exact hl,by simpa using rv⟩) (fun b u z=>by have z':(none:Option HO)=some u:=z;cases z') (fun b z=>absurd rfl z) fun z=>absurd rfl z
 | none=>
  refine core (fun b=>if b=a then some (.frz { cls := .type "list",data := .seq vs.toArray } (.lst (ns.map V.int))) else none) (fun b=>?_) (.inl (.inr ⟨{ cls := .type "list",data := .seq vs.toArray },if_pos rfl⟩)) (fun b u z=>?_) (fun b z=>?_) fun _=>hk
  ·by_cases hb:b=a
   ·exact .inr ⟨_,_,if_pos hb⟩
   ·exact .inl (if_neg hb)
  ·by_cases hb:b=a
   ·have z':=(if_pos hb).symm.trans z
    cases z'
    subst hb
    exact ⟨ha,by rw [List.length_map];exact hl,vs,_,rv,ha⟩
   ·have z':=(if_neg hb).symm.trans z
    cases z'
  ·by_cases hb:b=a
   ·exact hb
   ·exact absurd (if_neg hb) z
end L2
namespace L2
open PySem PySem.Spec PyProof.Rows
theorem uR {l:PySem.W.OpenLaw}{n k:Nat}{q:Program}{loose:List Str}{XP:(Str→Option Value)→Heap→Prop}{YP:World→Heap→Prop}{d:DefRec}{K:Params→PySem.W.Frag}{CX:World→CXT}{sp:World→Sp}{x:Str}
  (hn:l.most=some n) (hn2:n≤sizeLine) (hdf:d.params.defaults=[]) (hr:Room k callerA)
  (hY:∀ (w:World) (h:Heap),YP w h→(K w.params).In h)
  (F:∀ (w:World) (mg:Str→Option Value) (fa:Addr) (h:Heap),(K w.params).In h→h.Ns mainGlobals mg→mg d.name=some (.ref fa) →
   ∃ fd:FuncData,(∀ (s:Shared) (u:Value),BindsTo s fd ⟨[u],[]⟩ [(x,u)]) ∧
    ∀ base:Heap,(K w.params).In base→base.Ns mainGlobals mg→FnOk l.prog w (K w.params) mg base (CX w) k fa fd [x] (sp w))
  (hsp:∀ (w:World) (H:Hp) (a:Addr) (ns:List Int),ns.length≤n→xV H→SqL (K w.params) H a (ns.map V.int)→sp w [.ref a] H (fun v _=>v = .bl true) fun _ _ _=>False)
  (hCX:∀ (w:World) (H:Hp) (s:Shared) (e:Value) (s':Shared),CX w [] H s (fun _ _ _=>False) e s'→False) :
  PySem.W.WalkO q loose XP YP l.row.toRowW d [] (fun f vs=>PySem.call f vs):=by
 refine Att.attach_call hn hdf fun w s₀ s₁ mg mb fa o pm cd doc a vs ns G Y ho hd hcd hmg hobj hints hlen hg=>?_
 have KX:=hY w _ Y
 obtain ⟨fd,hb,hF⟩:=F w mg fa _ KX G.T.g hmg
 exact sH KX G.T.g G.T.b G.T.builtins G.T.nolimit hg hobj hints (Nat.le_trans hlen hn2) hr hF hb (fun H hO hS=>hsp w H a ns hlen hO hS) fun H e s'=>hCX w H s₁ e s'
end L2
namespace L2
open PySem PySem.Spec PyProof.Rows
noncomputable def aV (s:Stmt):Arguments:=match s with
 | .FunctionDef _ a _ _ _ _ _ _ _ _=>a
 | _=>{ posonlyargs:=[],args:=[],vararg:=none,kwonlyargs:=[],kw_defaults:=[],kwarg:=none,defaults:=[] }
noncomputable def aT (s:Stmt):List Stmt:=match s with
 | .FunctionDef _ _ b _ _ _ _ _ _ _=>b
 | _=>[]
noncomputable def aG (s:Stmt):Scope:=match s with
 | .FunctionDef _ _ _ _ _ _ sc _ _ _=>sc
 | _=>{ kind := .function,names:=[],isGenerator:=false,isCoroutine:=false }
noncomputable abbrev CX0:CXT:=fun _ _ _ _ _ _=>False
noncomputable abbrev E0:XK:=fun _ _ _=>False
theorem yD {X:Cx}:qS CX0 X E0:=fun _ _ _ _ _ _ _ h=>h.elim
structure Fun (K:PySem.W.Frag)(x qual:Str)(st:Stmt)(f:Addr)(fd:FuncData):Prop where
 ex:∃ (oc:Value) (od:Option Addr) (kV doc pm:Value) (an:Option Addr) (cdv ct:Value) (osl:Array (Option Value)),
  fd=PySem.W.fnOf x qual (aV st) (aT st) (aG st) .none kV doc pm an cdv ct∧K.lookup f=some ⟨oc,od, .func fd,osl⟩∧PySem.W.codeIn K cdv qual=true
 kp:PySem.W.keepIn K (.ref f)=true
section
variable {P:Program}{w:World}{K:PySem.W.Frag}{mg:Str→Option Value}{base:Heap}
theorem Fun.ok {x qual:Str}{st:Stmt}{f:Addr}{fd:FuncData}{N ps:List Str}{k:Nat}{sp:Sp}(F:Fun K x qual st f fd)(S:aZ N ps (aG st))(len:∀ vs H Q E,sp vs H Q E→vs.length=ps.length)
  (hbody:∀ (cdv:Value) (A:Around) (outer:List Env) (s:Shared) (H:Hp) (vs:List V) (Q:VK) (E:XK),Room k (A.deeper (envOfC qual (aG st) s.heap.objs.size f cdv))→sp vs H Q E →
   ∃ t,PSs (vH CX0 P w K mg base N qual (aG st) f cdv A outer s H E).nox (aT st) t∧t { nx:=fun _ H'=>Q .non H',rt:=Q } (aW N vs) H):FnOk P w K mg base CX0 (k+1) f fd ps sp:=by
 obtain ⟨oc,od,kV,doc,pm,an,cdv,ct,osl,rfl,lk,hcd⟩:=F.ex
 refine yA lk hcd S len fun A outer s H vs Q E hr hsp=>?_
 obtain ⟨t,h,q⟩:=hbody cdv A outer s H vs Q E hr hsp
 exact ⟨t,h.nox,q⟩
theorem Fun.binds {x qual:Str}{st:Stmt}{f:Addr}{fd:FuncData}{ps:List Str}(F:Fun K x qual st f fd)
  (h:∀ (kV doc pm:Value) (an:Option Addr) (cdv ct:Value) (us:List Value),us.length=ps.length→bindArgs (PySem.W.fnOf x qual (aV st) (aT st) (aG st) .none kV doc pm an cdv ct) ⟨us,[]⟩=pure (ps.zip us)):Binds K fd ps []:=by
 obtain ⟨oc,od,kV,doc,pm,an,cdv,ct,osl,rfl,lk,hcd⟩:=F.ex
 exact .all (h kV doc pm an cdv ct)
theorem bY {x qual:Str}{st:Stmt}{f:Addr}{oc:Value}{od an:Option Addr}{osl:Array (Option Value)}{kV doc pm cdv ct:Value}(l:K.lookup f=some ⟨oc,od, .func (PySem.W.fnOf x qual (aV st) (aT st) (aG st) .none kV doc pm an cdv ct),osl⟩)
  (c:PySem.W.codeIn K cdv qual=true) (k:PySem.W.keepIn K (.ref f)=true):Fun K x qual st f (PySem.W.fnOf x qual (aV st) (aT st) (aG st) .none kV doc pm an cdv ct):=⟨⟨oc,od,kV,doc,pm,an,cdv,ct,osl,rfl,l,c⟩,k⟩
end
section
variable {X:Cx}
theorem pv (i:Nat){x:Str}{pos:Pos}(hN:X.N[i]?=some x:=by rfl)(hv:Vis X.env.scope x:=by first | exact Or.inl rfl | exact Or.inr (Or.inl rfl) | exact Or.inr (Or.inr rfl))(hd:(x == ("__debug__" : Str))=false:=by decide)
  (hcd:(x == ("__classdict__" : Str))=false:=by decide):PE X (.Name x pos) (aK i):=wA hN hv hd hcd
end
theorem rA {A B:Prop}(h:B):if false=true then A else B:=by
 rw [if_neg Bool.false_ne_true]
 exact h
theorem xN {A B:Prop}(h:A):if true=true then A else B:=by
 rw [if_pos rfl]
 exact h
theorem zL {c A B:Prop}[Decidable c](h1:c→A)(h2:¬ c→B):if c then A else B:=by
 by_cases h:c
 ·rw [if_pos h]
  exact h1 h
 ·rw [if_neg h]
  exact h2 h
noncomputable def Same (H H':Hp):Prop:=∀ b o,H b=some o→H' b=some o
theorem Same.refl (H:Hp):Same H H:=fun _ _ h=>h
theorem Same.trans {H H1 H2:Hp}(a:Same H H1)(b:Same H1 H2):Same H H2:=fun c o h=>b c o (a c o h)
theorem Same.seq {K:PySem.W.Frag}{H H':Hp}{a:Addr}{xs:List V}(e:Same H H')(h:SqL K H a xs):SqL K H' a xs:=by
 rcases h with (h | ⟨o,h⟩) | h
 ·exact .inl (.inl (e _ _ h))
 ·exact .inl (.inr ⟨o,e _ _ h⟩)
 ·exact .inr h
end L2
namespace L2
open PySem PySem.Spec PyProof.Rows
section
variable {κ:Type}[DecidableEq κ]
noncomputable def yJ (kvs:List (κ × V)) (k:κ):Option V:=(kvs.find? fun kv=>decide (kv.1=k)).map (·.2)
noncomputable def yP (kvs:List (κ × V)) (k:κ) (v:V):List (κ × V):=
 if (kvs.any fun kv=>decide (kv.1=k))=true then kvs.map (fun kv=>if kv.1=k then (kv.1,v) else kv) else kvs++[(k,v)]
theorem KV.length {kvs:List (κ × V)}{vs:List (κ × Value)}(r:KV kvs vs):kvs.length=vs.length:=Paired.length r
end
section
variable {P:Program}{w:World}{H:Hp}{h:Heap}{a:Addr}
end
noncomputable def DGet (H:Hp) (a:Addr) (y:V) (r:Option V):Prop:=
 (∃ kvs k,Rd H a (.dK kvs)∧y=kV k∧r=yJ kvs k)∨∃ kvs k b,Rd H a (.dT kvs)∧y = .ref b∧H b=some (.tup (k.map kV))∧r=yJ kvs k
noncomputable def DPut (H:Hp) (a:Addr) (y v:V) (H':Hp):Prop:=
 (∃ kvs k,H a=some (.dK kvs)∧y=kV k∧kvs.length<sizeLine∧H'=upd H a (.dK (yP kvs k v))) ∨
 ∃ kvs k b,H a=some (.dT kvs)∧y = .ref b∧H b=some (.tup (k.map kV))∧kvs.length<sizeLine∧H'=upd H a (.dT (yP kvs k v))
theorem DGet.t {H:Hp}{a b:Addr}{kvs:List (List Key × V)}{k:List Key}(e:H a=some (.dT kvs))(eb:H b=some (.tup (k.map kV))):DGet H a (.ref b) (yJ kvs k) := .inr ⟨kvs,k,b, .inl e,rfl,eb,rfl⟩
theorem DPut.t {H:Hp}{a b:Addr}{kvs:List (List Key × V)}{k:List Key}{v:V}(e:H a=some (.dT kvs))(eb:H b=some (.tup (k.map kV)))(hl:kvs.length<sizeLine) :
  DPut H a (.ref b) v (upd H a (.dT (yP kvs k v))) := .inr ⟨kvs,k,b,e,rfl,eb,hl,rfl⟩
section
variable {X:Cx}{pins:List (Addr × Obj)}{σ:St}{H:Hp}{s:Shared}{a:Addr}{y v:V}{u r:Value}{o:Option V}{A:Around}{E:Value→Shared→Prop}
end
section
variable {X:Cx}{pins:List (Addr × Obj)}{σ:St}{H:Hp}{s:Shared}{a:Addr}{kvs:List (Key × V)}{k:Key}{u:Value}{A:Around}{E:Value→Shared→Prop}
end
section
variable {X:Cx}{o i e value:Expr}{pos pos' tpos:Pos}{td ty tv:TE}
end
section
variable {X:Cx}{pos:Pos}
end
section
variable {X:Cx}{pins:List (Addr × Obj)}{σ:St}{H:Hp}{s:Shared}{a:Addr}{y d:V}{u r:Value}{o:Option V}{A:Around}{E:Value→Shared→Prop}
end
section
variable {X:Cx}{o e f:Expr}{apos cpos:Pos}{td ty tx:TE}
end
section
variable {X:Cx}{pins:List (Addr × Obj)}{σ:St}{H:Hp}{s:Shared}{a:Addr}{kvs:List (Key × V)}{A:Around}{E:Value→Shared→Prop}
end
section
variable {X:Cx}{pins:List (Addr × Obj)}{σ:St}{H:Hp}{s:Shared}{a:Addr}{y:V}{u:Value}{A:Around}{E:Value→Shared→Prop}
end
end L2
namespace L2
open PySem PySem.Spec PyProof.Rows
section
variable {X:Cx}
end
end L2
namespace L2
open PySem PySem.Spec PyProof.Rows
section
variable {κ:Type}[DecidableEq κ]
end
end L2
namespace L2
open PySem PySem.Spec PyProof.Rows
noncomputable def iK (J:It) (g:TG) (tb:TS):TS:=fun D σ H=>∃ W:Nat→Nat→St→Hp→Prop,(∃ m,W 0 m σ H)∧∀ i m σ H,W i m σ H →
 (J.stop i H∧D.nx σ H)∨(J.go i H∧∃ N:St→Hp→Prop,(∀ σ' H',N σ' H'→∃ m',m'<m∧W (i+1) m' σ' H')∧∀ x H',J.yld i H x H'→g x σ H' fun σ2 H2=>tb { D with nx:=N,ct:=N,bk:=D.nx } σ2 H2)
noncomputable def nD (elt:Expr) (gens:List Comprehension) (scope:Scope) (pos:Pos) (d:Nat) (acc:Value) (env:Env) (k:Sem Fin):Sem Fin:=
 match gens[d+1]? with
 | some g'=>eval g'.iter env >>= fun x=>standAt g'.iter.pos >>= fun _=>foldedSetIterable g'.iter env x >>= fun x=>holding [x] (pyIter x) >>= fun i=>
   runOwn (.compStart (.ListComp elt gens scope pos) (d+1) i acc env) env >>= fun _=>k
 | none=>(eval elt env >>= fun x=>call (.builtin "list.append") [acc,x] >>= fun _=>pure ()) >>= fun _=>k
theorem mO {elt target iter:Expr}{ifs:List Expr}{gens:List Comprehension}{scope:Scope}{pos:Pos}{d:Nat}(it acc:Value)(env:Env)(hg:gens[d]?=some ⟨target,iter,ifs,0⟩)
  (hn:∀ g',gens[d+1]?=some g'→g'.is_async=0) :
  compTurn (.ListComp elt gens scope pos) d it acc env=(standAt iter.pos >>= fun _=>pyNext it >>= fun r=>match r with
   | none=>pure (.done .next)
   | some v=>letOwnedTupleGo target it v >>= fun _=>assign target env v >>= fun _=>
    (forIn ifs true fun c r=>if r=true then do let ok ← isTrue c env (eval c env);pure (ForInStep.yield ok) else pure (ForInStep.yield r)) >>= fun ok=>
     if ok=true then nD elt gens scope pos d acc env (again (.compLoop (.ListComp elt gens scope pos) d it acc env))
     else again (.compLoop (.ListComp elt gens scope pos) d it acc env)):=by
 unfold compTurn nD
 simp only [hg]
 cases h:gens[d+1]? with
 | none=>rfl
 | some g'=>
  obtain ⟨t',i',f',a'⟩:=g'
  have e:a'=0:=hn _ h
  subst e
  rfl
noncomputable def lH:List TT→TS→TS
 | [],tb=>tb
 | c :: r,tb=>lD c (lH r tb) aM
inductive PTs (X:Cx):List Expr→List TT→Prop
 | nil:PTs X [] []
 | cons {c:Expr} {cs:List Expr} {t:TT} {ts:List TT}:PT X c t→PTs X cs ts→PTs X (c :: cs) (t :: ts)
section
variable {X:Cx}
theorem mM {cs:List Expr}{s:Shared}{Q:Bool→Shared→Prop}{E:Value→Shared→Prop}(h:Q false s) :
  wpAny (model X.prog X.w) X.A (forIn cs false fun c r=>if r=true then do let ok ← isTrue c X.env (eval c X.env);pure (ForInStep.yield ok) else pure (ForInStep.yield r)) Q E s:=by
 induction cs with
 | nil=>rw [List.forIn_nil];exact wpAny_pure h
 | cons c cs ih=>
  rw [List.forIn_cons,if_neg Bool.false_ne_true]
  exact wpAny_bind (wpAny_pure ih)
theorem lG {tb:TS}{D:kA}{pins:List (Addr × Obj)}:∀ {cs:List Expr} {ts:List TT},PTs X cs ts→∀ {s:Shared} {σ:St} {H:Hp},Inv X pins σ H s→lH ts tb D σ H →
  wpAny (model X.prog X.w) X.A (forIn cs true fun c r=>if r=true then do let ok ← isTrue c X.env (eval c X.env);pure (ForInStep.yield ok) else pure (ForInStep.yield r))
   (fun ok s'=>∃ H',Inv X pins σ H' s'∧if ok=true then tb D σ H' else D.nx σ H') X.xe s
 | _,_, .nil,s,σ,H,I,h=>by rw [List.forIn_nil];exact wpAny_pure ⟨H,I,by rw [if_pos rfl];exact h⟩
 | _,_, .cons (cs:=cs) hc hr,s,σ,H,I,h=>by
  rw [List.forIn_cons,if_pos rfl]
  refine wpAny_bind (wpAny_bind (thn (hc pins s σ H _ I h) fun b s1 ⟨H1,I1,q1⟩=>wpAny_pure ?_))
  cases b with
  | true=>
   rw [if_pos rfl] at q1
   exact lG hr I1 q1
  | false=>
   rw [if_neg Bool.false_ne_true] at q1
   exact mM ⟨H1,I1,by rw [if_neg Bool.false_ne_true];exact q1⟩
end
noncomputable def PB (X:Cx) (elt:Expr) (gens:List Comprehension) (scope:Scope) (pos:Pos) (d:Nat) (acc:Addr) (t:TS):Prop:=
 ∀ (pins:List (Addr × Obj)) (s:Shared) (σ:St) (H:Hp) (D:kA) (k:Sem Fin) (Q:Fin→Shared→Prop) (E:Value→Shared→Prop),Inv X pins σ H s→t D σ H →
  (∀ s' σ' H',Inv X pins σ' H' s'→D.nx σ' H'→wpAny (model X.prog X.w) X.A k Q E s')→wpAny (model X.prog X.w) X.A (nD elt gens scope pos d (.ref acc) X.env k) Q E s
noncomputable def fG (te:TE) (acc:Addr):TS:=fun D σ H=>te σ H fun x H1=>∃ xs,H1 acc=some (.lst xs)∧xs.length<sizeLine∧D.nx σ (upd H1 acc (.lst (xs++[x])))
section
variable {X:Cx}
theorem cU {elt:Expr}{gens:List Comprehension}{scope:Scope}{pos:Pos}{d:Nat}{acc:Addr}{te:TE}(hx:X.xe=fun _ _=>False)(he:PE X elt te)(hl:gens[d+1]?=none):PB X elt gens scope pos d acc (fG te acc):=by
 intro pins s σ H D k Q E I h hk
 unfold nD
 rw [hl]
 refine wpAny_bind (wpAny_bind (wpAny_mono (he pins s σ H _ I h) (fun v s1 ⟨x,H1,I1,r1,xs,ha,hz,q⟩=>?_) fun _ _ z=>by rw [hx] at z;exact z.elim))
 have hm:=dC (X:=X) pins s1 σ H1 (.ref acc) [x] (.ref acc) [v] (fun v H'=>v = .non∧D.nx σ H') I1 rfl (.cons r1 .nil) ⟨acc,xs,x,rfl,rfl,ha,hz,rfl,q⟩
 refine wpAny_bind (wpAny_mono hm (fun _ s2 ⟨x2,H2,I2,r2,_,q2⟩=>wpAny_pure (hk s2 σ H2 I2 q2)) fun _ _ z=>by rw [hx] at z;exact z.elim)
theorem pO {elt target iter:Expr}{ifs:List Expr}{gens:List Comprehension}{scope:Scope}{pos:Pos}{d:Nat}{acc it:Addr}{fp:List Addr}{tn:Nat→Heap→Prop}{J:It}{g:TG}{ts:List TT}{tb:TS}{D:kA}{pins:List (Addr × Obj)}{s:Shared}{σ:St}{H:Hp}
  (hx:X.xe=fun _ _=>False) (hc:X.calm=true) (hgd:gens[d]?=some ⟨target,iter,ifs,0⟩) (hn:∀ g',gens[d+1]?=some g'→g'.is_async=0)
  (hg:PG X target g) (hts:PTs X ifs ts) (hb:PB X elt gens scope pos d acc tb)
  (T:vF X.prog X.w X.K target J fp it tn) (I:Inv X pins σ H s) (st:tn 0 s.heap) (hf:∀ b∈fp,mG X pins H b) (h:iK J g (lH ts tb) D σ H) :
  codeAny (model X.prog X.w) X.A (.compStart (.ListComp elt gens scope pos) d (.ref it) (.ref acc) X.env) (fun r s'=>∃ f,r = .ok f∧∃ σ' H',Inv X pins σ' H' s'∧D.nx σ' H') s:=by
 have stat:∀ {H':Hp},(∀ b∈fp,H' b=none)→∀ b∈fp,mG X pins H' b:=fun hn b hb=>⟨hn b hb,(hf b hb).2⟩
 obtain ⟨W,⟨m0,w0⟩,turn⟩:=h
 have E0:∀ (e:Value) (s':Shared),X.xe e s'→notedBy (model X.prog X.w) X.A X.env (fun e s'=>∃ f,(Except.error e:Result) = .ok f∧∃ σ' H',Inv X pins σ' H' s'∧D.nx σ' H') e s':=fun e s' z=>by rw [hx] at z;exact z.elim
 have loop:codeAny (model X.prog X.w) X.A (.compLoop (.ListComp elt gens scope pos) d (.ref it) (.ref acc) X.env) (fun r s'=>∃ f,r = .ok f∧∃ σ' H',Inv X pins σ' H' s'∧D.nx σ' H') s:=by
  refine codeAny_loop rfl (fun n s'=>∃ i σ' H',Inv X pins σ' H' s'∧tn i s'.heap∧(∀ b∈fp,H' b=none)∧W i n σ' H') ?_ m0 ⟨0,σ,H,I,st,fun b hb=>(hf b hb).1,w0⟩
  rintro n s3 ⟨i,σ3,H3,I3,st3,fr3,w3⟩
  show wpAny _ X.A ((compTurn (.ListComp elt gens scope pos) d (.ref it) (.ref acc) X.env).onRaise (fun x=>do noteFrame x X.env;theTreesLotGoes x)) _ _ s3
  refine wpAny_noted ?_
  rw [mO _ _ _ hgd hn]
  refine wpAny_bind (wpAny_standAt (wpAny_bind ?_))
  rcases turn i n σ3 H3 w3 with ⟨stop,qn⟩ | ⟨go,N,hN,step⟩
  ·refine wpAny_mono (T.done X rfl rfl rfl hc i pins s3 σ3 H3 (fun _ _=>False) I3 (stat fr3) st3 stop) (fun r s4 ⟨hr,I4⟩=>?_) (fun _ _ z=>z.elim)
   subst hr
   exact wpAny_pure ⟨.next,rfl,σ3,H3,I4,qn⟩
  ·refine wpAny_mono (T.item X rfl rfl rfl hc i pins s3 σ3 H3 (fun _ _=>False) I3 (stat fr3) st3 go) (fun r s4 ⟨u,hr,h4⟩=>?_) (fun _ _ z=>z.elim)
   subst hr
   refine wpAny_bind (wpAny_mono h4 (fun _ s5 ⟨x,H5,I5,r5,y5,st5,fr5⟩=>?_) (fun _ _ z=>z.elim))
   have I5':=I5.pinned (stat fr5) (T.obj _ _ st5)
   refine wpAny_bind (wpAny_mono (hg _ s5 σ3 H5 x u _ I5' r5 (step x H5 y5)) (fun _ s6 ⟨σ6,H6,I6,q6⟩=>?_) E0)
   refine wpAny_bind (wpAny_mono (lG hts I6 q6) (fun ok s7 ⟨H7,I7,q7⟩=>?_) E0)
   have again:∀ {σ7:St} {H7:Hp} {s7:Shared},Inv X (pins++kM fp s5.heap) σ7 H7 s7→N σ7 H7→∃ m,m<n∧∃ i σ' H',Inv X pins σ' H' s7∧tn i s7.heap∧(∀ b∈fp,H' b=none)∧W i m σ' H':=fun {σ7 H7 s7} I7 n7=>by
    obtain ⟨m',hm,w7⟩:=hN σ7 H7 n7
    refine ⟨m',hm,i+1,σ7,H7,I7.unpinned,T.keep _ _ _ st5 fun b hb o e=>(I7.pin (b,o) (List.mem_append_right _ (List.mem_append_right _ (dP hb e)))).1,fun b hb=>?_,w7⟩
    obtain ⟨o,e,d⟩:=T.obj _ _ st5 b hb
    exact (I7.pin (b,o) (List.mem_append_right _ (List.mem_append_right _ (dP hb e)))).2.1
   cases ok with
   | false=>
    rw [if_neg Bool.false_ne_true] at q7 ⊢
    exact wpAny_pure ⟨rfl,again I7 q7⟩
   | true=>
    rw [if_pos rfl] at q7 ⊢
    exact hb _ s7 σ6 H7 _ _ _ _ I7 q7 fun s8 σ8 H8 I8 q8=>wpAny_pure ⟨rfl,again I8 q8⟩
 refine codeAny_of_tree ?_
 show wpAny _ _ ((compStart (.ListComp elt gens scope pos) d (.ref it) (.ref acc) X.env).onRaise (fun x=>do noteFrame x X.env;standAt theWindowsPlace)) _ _ s
 refine wpAny_notedAt ?_
 have hcl:clausesOf (.ListComp elt gens scope pos)=gens:=rfl
 unfold compStart
 rw [hcl,hgd]
 show wpAny _ _ (ask >>= _) _ _ s
 refine wpAny_bind (wpAny_askSetting (wpAny_ite ?_))
 split
 ·first
   | exact wpAny_bind (wpAny_pure (wpAny_pure (And.intro rfl loop)))
   | exact wpAny_pure (And.intro rfl loop)
 ·refine wpAny_bind (wpAny_rule ?_)
  show wpAny _ _ (standAt iter.pos >>= _) _ _ s
  exact wpAny_bind (wpAny_standAt (wpAny_bind (T.self X.A 0 s _ _ st (wpAny_pure (And.intro rfl loop)))))
end
end L2
namespace L2
open PySem PySem.Spec PyProof.Rows
noncomputable def cA (cells:List (Str × Addr)):List (Str × NameKind)→List (Str × Addr)→List (Str × Addr)
 | [],acc=>acc
 | (n,k) :: r,acc=>if k == .free then cA cells r ((n,(cells.lookup n).getD 0) :: acc) else cA cells r acc
theorem iJ {scope:Scope}{env:Env}(h:∀ x∈scope.names,x.2 = .free→(env.cells.lookup x.1).isSome=true):closureFor scope env=pure (cA env.cells scope.names []):=by
 have go:∀ (names:List (Str × NameKind)) (acc:List (Str × Addr)),(∀ x∈names,x.2 = .free→(env.cells.lookup x.1).isSome=true) →
   (forIn names acc fun x (r:List (Str × Addr))=>if x.2 == NameKind.free then (do let c ← cellOf env x.1;pure (ForInStep.yield ((x.1,c) :: r))) else pure (ForInStep.yield r):Sem (List (Str × Addr)))=pure (cA env.cells names acc):=by
  intro names
  induction names with
  | nil=>intro acc _;rw [List.forIn_nil];rfl
  | cons x r ih=>
   intro acc hh
   obtain ⟨n,k⟩:=x
   rw [List.forIn_cons]
   unfold cA
   cases hk:k == NameKind.free with
   | false=>
    rw [if_neg Bool.false_ne_true,if_neg Bool.false_ne_true]
    exact ih acc fun y hy=>hh y (List.mem_cons_of_mem _ hy)
   | true=>
    rw [if_pos rfl,if_pos rfl]
    obtain ⟨c,hc⟩:=Option.isSome_iff_exists.mp (hh (n,k) List.mem_cons_self (by simpa using hk))
    have e:cellOf env n=pure c:=by
     unfold cellOf
     rw [show env.cells.lookup n=some c from hc]
    show (do let x ← (do let c ← cellOf env n;pure (ForInStep.yield ((n,c) :: acc)));_)=_
    rw [e]
    rw [show ((env.cells.lookup n).getD 0)=c by rw [show env.cells.lookup n=some c from hc];rfl]
    exact ih ((n,c) :: acc) fun y hy=>hh y (List.mem_cons_of_mem _ hy)
 have:=go scope.names [] h
 unfold closureFor
 refine Eq.trans ?_ (congrArg (fun m=>m >>= fun r=>pure r) this |>.trans rfl)
 rfl
theorem iB {cells:List (Str × Addr)}{x:Str}:∀ (names:List (Str × NameKind)) (acc:List (Str × Addr)),(x,NameKind.free)∉names→(cA cells names acc).lookup x=acc.lookup x
 | [],_,_=>rfl
 | (n,k) :: r,acc,h=>by
  unfold cA
  have hr:(x,NameKind.free)∉r:=fun z=>h (List.mem_cons_of_mem _ z)
  cases hk:k == NameKind.free with
  | false=>rw [if_neg Bool.false_ne_true];exact iB r acc hr
  | true=>
   rw [if_pos rfl,iB r _ hr,List.lookup_cons]
   have e:k = .free:=by simpa using hk
   have ne:(x == n)=false:=by
    cases q:x == n with
    | false=>rfl
    | true=>exact absurd (by rw [beq_iff_eq.mp q,e];exact List.mem_cons_self) h
   rw [ne]
theorem gG {cells:List (Str × Addr)}{x:Str}{c:Addr}(hc:cells.lookup x=some c):∀ (names:List (Str × NameKind)) (acc:List (Str × Addr)),(x,NameKind.free)∈names→(cA cells names acc).lookup x=some c
 | [],_,h=>by simp at h
 | (n,k) :: r,acc,h=>by
  unfold cA
  by_cases hr:(x,NameKind.free)∈r
  ·cases hk:k == NameKind.free with
   | false=>rw [if_neg Bool.false_ne_true];exact gG hc r acc hr
   | true=>rw [if_pos rfl];exact gG hc r _ hr
  ·rcases List.mem_cons.mp h with e | e
   ·cases e
    rw [if_pos (by decide),iB r _ hr,List.lookup_cons]
    simp [hc]
   ·exact absurd e hr
theorem fE {cells:List (Str × Addr)}{x:Str}{c:Addr}:∀ (names:List (Str × NameKind)) (acc:List (Str × Addr)),(∀ y∈names,y.2 = .free→(cells.lookup y.1).isSome=true)→(x,c)∈cA cells names acc →
  (x,c)∈acc∨((x,NameKind.free)∈names∧cells.lookup x=some c)
 | [],_,_,h => .inl h
 | (n,k) :: r,acc,hh,h=>by
  unfold cA at h
  have hr:∀ y∈r,y.2 = .free→(cells.lookup y.1).isSome=true:=fun y hy=>hh y (List.mem_cons_of_mem _ hy)
  cases hk:k == NameKind.free with
  | false=>
   rw [hk,if_neg Bool.false_ne_true] at h
   exact (fE r acc hr h).imp id fun z=>⟨List.mem_cons_of_mem _ z.1,z.2⟩
  | true=>
   rw [hk,if_pos rfl] at h
   have ek:k = .free:=by simpa using hk
   rcases fE r _ hr h with z | z
   ·rcases List.mem_cons.mp z with z | z
    ·cases z
     obtain ⟨d,hd⟩:=Option.isSome_iff_exists.mp (hh (x,k) List.mem_cons_self ek)
     exact .inr ⟨by rw [ek];exact List.mem_cons_self,by rw [hd];rfl⟩
    ·exact .inl z
   ·exact .inr ⟨List.mem_cons_of_mem _ z.1,z.2⟩
theorem dZ {cells:List (Str × Addr)}(inj:∀ x y c,cells.lookup x=some c→cells.lookup y=some c→x=y):∀ (names:List (Str × NameKind)) (acc:List (Str × Addr)),(names.map (·.1)).Nodup →
  (∀ y∈names,y.2 = .free→(cells.lookup y.1).isSome=true)→(∀ p∈acc,cells.lookup p.1=some p.2∧p.1∉names.map (·.1))→(acc.Pairwise fun x y=>x.2≠y.2)→(cA cells names acc).Pairwise fun x y=>x.2≠y.2
 | [],_,_,_,_,h=>h
 | (n,k) :: r,acc,nd,hh,ha,h=>by
  unfold cA
  have hr:∀ y∈r,y.2 = .free→(cells.lookup y.1).isSome=true:=fun y hy=>hh y (List.mem_cons_of_mem _ hy)
  obtain ⟨n1,n2⟩:=List.nodup_cons.mp nd
  cases hk:k == NameKind.free with
  | false=>
   rw [if_neg Bool.false_ne_true]
   exact dZ inj r acc n2 hr (fun p hp=>⟨(ha p hp).1,fun z=>(ha p hp).2 (List.mem_cons_of_mem _ z)⟩) h
  | true=>
   rw [if_pos rfl]
   have ek:k = .free:=by simpa using hk
   obtain ⟨d,hd⟩:=Option.isSome_iff_exists.mp (hh (n,k) List.mem_cons_self ek)
   have hd':cells.lookup n=some d:=hd
   refine dZ inj r _ n2 hr (fun p hp=>?_) (List.pairwise_cons.mpr ⟨fun p hp e=>?_,h⟩)
   ·rcases List.mem_cons.mp hp with e | hp
    ·subst e;exact ⟨by rw [hd'];rfl,n1⟩
    ·exact ⟨(ha p hp).1,fun z=>(ha p hp).2 (List.mem_cons_of_mem _ z)⟩
   ·rw [hd'] at e
    have e':d=p.2:=e
    have:n=p.1:=inj n p.1 d hd' (by rw [e'];exact (ha p hp).1)
    exact (ha p hp).2 (by rw [← this];exact List.mem_cons_self)
theorem cL {x:Str}{c:Addr}:∀ (names:List (Str × NameKind)) (n:Nat) (acc:List (Str × Addr)),(x,c)∈cellsFrom n names acc→(n≤c∧(x,NameKind.cell)∈names)∨(x,c)∈acc
 | [],_,_,h => .inr h
 | (y,k) :: r,n,acc,h=>by
  unfold cellsFrom at h
  cases hk:k == NameKind.cell with
  | false=>
   rw [hk,if_neg Bool.false_ne_true] at h
   exact (cL r n acc h).imp (fun z=>⟨z.1,List.mem_cons_of_mem _ z.2⟩) id
  | true=>
   rw [hk,if_pos rfl] at h
   have ek:k = .cell:=by simpa using hk
   rcases cL r (n+1) _ h with z | z
   ·exact .inl ⟨by omega,List.mem_cons_of_mem _ z.2⟩
   ·rcases List.mem_cons.mp z with z | z
    ·cases z
     exact .inl ⟨Nat.le_refl _,by rw [ek];exact List.mem_cons_self⟩
    ·exact .inr z
theorem bZ:∀ (names:List (Str × NameKind)) (n:Nat) (acc:List (Str × Addr)),(∀ p∈acc,p.2<n)→(acc.Pairwise fun x y=>x.2≠y.2)→(cellsFrom n names acc).Pairwise fun x y=>x.2≠y.2
 | [],_,_,_,h=>h
 | (y,k) :: r,n,acc,hl,h=>by
  unfold cellsFrom
  cases hk:k == NameKind.cell with
  | false=>rw [if_neg Bool.false_ne_true];exact bZ r n acc hl h
  | true=>
   rw [if_pos rfl]
   refine bZ r (n+1) _ (fun p hp=>?_) (List.pairwise_cons.mpr ⟨fun p hp e=>?_,h⟩)
   ·rcases List.mem_cons.mp hp with e | hp
    ·subst e;exact Nat.lt_succ_self _
    ·exact Nat.lt_succ_of_lt (hl p hp)
   ·have e':n=p.2:=e
    exact Nat.lt_irrefl _ (e' ▸ hl p hp)
theorem cR {x:Str}:∀ (names:List (Str × NameKind)) (n:Nat) (acc:List (Str × Addr)),(x,NameKind.cell)∉names→(cellsFrom n names acc).lookup x=acc.lookup x
 | [],_,_,_=>rfl
 | (y,k) :: r,n,acc,h=>by
  unfold cellsFrom
  have hr:(x,NameKind.cell)∉r:=fun z=>h (List.mem_cons_of_mem _ z)
  cases hk:k == NameKind.cell with
  | false=>rw [if_neg Bool.false_ne_true];exact cR r n acc hr
  | true=>
   rw [if_pos rfl,cR r _ _ hr,List.lookup_cons]
   have e:k = .cell:=by simpa using hk
   have ne:(x == y)=false:=by
    cases q:x == y with
    | false=>rfl
    | true=>exact absurd (by rw [beq_iff_eq.mp q,e];exact List.mem_cons_self) h
   rw [ne]
theorem cB {x:Str}{c:Addr}:∀ (names:List (Str × NameKind)) (h:Heap) (acc:List (Str × Addr)),(x,c)∈cellsFrom h.objs.size names acc→(x,c)∈acc∨(pushCells h names).IsCell c none
 | [],_,_,hm => .inl hm
 | (y,k) :: r,h,acc,hm=>by
  unfold cellsFrom at hm
  unfold pushCells
  cases hk:k == NameKind.cell with
  | false=>
   rw [hk,if_neg Bool.false_ne_true] at hm
   rw [if_neg Bool.false_ne_true]
   exact cB r h acc hm
  | true=>
   rw [hk,if_pos rfl] at hm
   rw [if_pos rfl]
   have:=cB (x:=x) (c:=c) r (h.push { cls := .type "cell",data := .cell none }) ((y,h.objs.size) :: acc) (by rw [Heap.size_push];exact hm)
   rcases this with z | z
   ·rcases List.mem_cons.mp z with z | z
    ·cases z
     exact .inr ⟨_,pushCells_keeps r _ _ _ (Heap.get?_push_size _ rfl),rfl⟩
    ·exact .inl z
   ·exact .inr z
theorem bI {x:Str}{k:NameKind}:∀ {names:List (Str × NameKind)},(names.map (·.1)).Nodup→(x,k)∈names→names.lookup x=some k
 | [],_,h=>by simp at h
 | (y,j) :: r,nd,h=>by
  obtain ⟨n1,n2⟩:=List.nodup_cons.mp nd
  rw [List.lookup_cons]
  rcases List.mem_cons.mp h with e | e
  ·cases e;simp
  ·have ne:(x == y)=false:=by
    cases q:x == y with
    | false=>rfl
    | true=>exact absurd (List.mem_map.mpr ⟨(x,k),e,beq_iff_eq.mp q⟩) n1
   rw [ne]
   exact bI n2 e
theorem eQ {scope:Scope}{env:Env}{x:Str}{k:NameKind}:(relabel scope env).names.lookup x=some k→(k = .cell∨k = .free)→scope.names.lookup x=some .cell∨scope.names.lookup x=some .free:=by
 unfold relabel
 show (scope.names.map _).lookup x=some k→_
 induction scope.names with
 | nil=>intro h;simp at h
 | cons p r ih=>
  obtain ⟨n,j⟩:=p
  intro h hk
  rw [List.map_cons] at h
  rw [List.lookup_cons]
  by_cases hc:(j == NameKind.free && env.scope.kind == .function && env.kindOf n == some .cell)=true
  ·simp only [hc,if_true] at h
   rw [List.lookup_cons] at h
   cases q:x == n with
   | true=>
    have:j = .free:=by
     have:=(Bool.and_eq_true_iff.mp (Bool.and_eq_true_iff.mp hc).1).1
     simpa using this
    simp [this]
   | false=>rw [q] at h;simpa using ih h hk
  ·simp only [hc,Bool.false_eq_true,if_false] at h
   rw [List.lookup_cons] at h
   cases q:x == n with
   | true=>
    rw [q] at h
    simp only [Option.some.injEq] at h
    subst h
    rcases hk with e | e <;> simp [e]
   | false=>rw [q] at h;simpa using ih h hk
theorem lE {scope:Scope}{env:Env}{x:Str}(hf:env.scope.kind = .function):scope.names.lookup x=some .free→(relabel scope env).names.lookup x=some .cell∨(relabel scope env).names.lookup x=some .free:=by
 unfold relabel
 show _→(scope.names.map _).lookup x=_∨(scope.names.map _).lookup x=_
 induction scope.names with
 | nil=>intro h;simp at h
 | cons p r ih=>
  obtain ⟨n,j⟩:=p
  intro h
  rw [List.lookup_cons] at h
  rw [List.map_cons]
  cases q:x == n with
  | true=>
   rw [q] at h
   simp only [Option.some.injEq] at h
   subst h
   by_cases hc:(NameKind.free == NameKind.free && env.scope.kind == .function && env.kindOf n == some .cell)=true
   ·left;simp only [hc,if_true];rw [List.lookup_cons,q]
   ·right;simp only [hc,Bool.false_eq_true,if_false];rw [List.lookup_cons,q]
  | false=>
   rw [q] at h
   by_cases hc:(j == NameKind.free && env.scope.kind == .function && env.kindOf n == some .cell)=true
   ·simp only [hc,if_true];rw [List.lookup_cons,q];exact ih h
   ·simp only [hc,Bool.false_eq_true,if_false];rw [List.lookup_cons,q];exact ih h
end L2
namespace L2
open PySem PySem.Spec PyProof.Rows
noncomputable def cG (X:Cx) (N:List Str) (scope:Scope) (s:Shared) (H:Hp) (fp:List Addr):Cx where
 prog:=X.prog
 w:=X.w
 K:=X.K
 mg:=X.mg
 base:=X.base
 A:=X.A
 N:=N
 s₀:=s
 H₀:=H
 env:=compEnvC scope (cellsFrom (s.heap.objs.size+1) scope.names (cA X.env.cells scope.names [])) s.heap.objs.size X.env
 outer:=X.stack
 stack:=X.stack
 ex:=fp
 fn:=fun x=>scope.names.lookup x == some .cell
 calm:=X.calm
 pn:=[]
 xe:=fun _ _=>False
noncomputable def xU (σ:St):Option Nat→Option V
 | none=>none
 | some j=>(σ[j]?).join
noncomputable def fA (N:List Str) (names encl:List (Str × NameKind)) (N':List Str) (ix:List (Option Nat)):Bool:=
 decide ((names.map (·.1)).Nodup) && names.all (fun p=>!(p.2 == NameKind.free) || (encl.lookup p.1 == some NameKind.cell || encl.lookup p.1 == some NameKind.free)) && ix.length == N'.length &&
  ((N'.zip ix).all fun p=>match p.2 with
   | none=>true
   | some j=>N[j]? == some p.1 && names.lookup p.1 == some NameKind.free)
noncomputable def gC (ix:List (Option Nat)) (wi:TI) (g:TG) (ts:List TT) (tb:Addr→TS):TE:=fun σ H Q=>wi σ H fun J H1=>∀ acc,H1 acc=none →
 iK J g (lH ts (tb acc)) { nx:=fun _ H'=>Q (.ref acc) H',rt:=fun _ _=>False } (ix.map (xU σ)) (upd H1 acc (.lst []))
section
variable {X:Cx}{elt target iter:Expr}{ifs:List Expr}{rest:List Comprehension}{scope:Scope}{pos:Pos}{N':List Str}{ix:List (Option Nat)}{wi:TI}{g:TG}{ts:List TT}{tb:Addr→TS}
theorem oC {pins:List (Addr × Obj)}{σ:St}{H:Hp}{s:Shared}{fp:List Addr}{Q:Env→Shared→Prop}{E:Value→Shared→Prop}(I:Inv X pins σ H s)(hok:fA X.N scope.names X.env.scope.names N' ix=true)(hk:scope.kind = .function)
  (hf:∀ b∈fp,mG X pins H b) (hfo:∀ b∈fp,∃ o,s.heap.get? b=some o)
  (h:∀ s',(∀ b o,s.heap.get? b=some o→s'.heap.get? b=some o)→Inv (cG X N' scope s H fp) [] (ix.map (xU σ)) H s'→Q (newEnv scope s.heap.objs.size X.env.globals (cellsFrom (s.heap.objs.size+1) scope.names (cA X.env.cells scope.names [])) X.env.qual none .none (some X.env) builtinsNs) s') :
  wpAny (model X.prog X.w) X.A (newFunctionEnv scope X.env.globals (cA X.env.cells scope.names []) [] X.env.qual none .none (some X.env)) Q E s:=by
 have hok2:=hok
 simp only [fA,Bool.and_eq_true,decide_eq_true_eq,List.all_eq_true] at hok
 obtain ⟨⟨⟨nd,hfr⟩,hlen⟩,hix⟩:=hok
 have hlen:ix.length=N'.length:=by simpa using hlen
 have isF:∀ y∈scope.names,y.2 = .free→X.env.kindOf y.1=some .cell∨X.env.kindOf y.1=some .free:=fun y hy e=>by
  have:=hfr y hy
  have:X.env.scope.names.lookup y.1=some .cell∨X.env.scope.names.lookup y.1=some .free:=by simpa [e] using this
  exact this
 have hasC:∀ y∈scope.names,y.2 = .free→(X.env.cells.lookup y.1).isSome=true:=fun y hy e=>by
  obtain ⟨c,hc⟩:=I.ok.has y.1 (isF y hy e)
  rw [hc];rfl
 have oldC:∀ x c,(x,c)∈cA X.env.cells scope.names []→(x,NameKind.free)∈scope.names∧X.env.cells.lookup x=some c:=fun x c hm=>(fE _ _ hasC hm).resolve_left (by simp)
 have ltC:∀ x c,X.env.cells.lookup x=some c→c<s.heap.objs.size:=fun x c e=>by obtain ⟨v,q⟩:=I.cell x c e;exact q.lt
 have apart:(cellsFrom (s.heap.objs.size+1) scope.names (cA X.env.cells scope.names [])).Pairwise fun x y=>x.2≠y.2:=
  bZ _ _ _ (fun p hp=>Nat.lt_succ_of_lt (ltC p.1 p.2 (oldC p.1 p.2 hp).2)) (dZ I.ok.inj _ _ nd hasC (by simp) List.Pairwise.nil)
 have fromC:∀ x c,(cellsFrom (s.heap.objs.size+1) scope.names (cA X.env.cells scope.names [])).lookup x=some c→(s.heap.objs.size+1≤c∧(x,NameKind.cell)∈scope.names)∨((x,NameKind.free)∈scope.names∧X.env.cells.lookup x=some c):=fun x c e=>
  (cL _ _ _ (PySem.mem_of_lookup e)).imp id fun z=>oldC x c z
 have sz1:(s.heap.push { cls := .type "dict",data := .dict #[] }).objs.size=s.heap.objs.size+1:=Heap.size_push ..
 simp only [newFunctionEnv,Option.isSome_some,if_true]
 refine wpAny_bind (wpAny_alloc ?_)
 refine wpAny_bind (wpAny_layCells _ (fun name kind cells=>by cases hkc:kind == NameKind.cell <;> simp [hkc]) _ _ _ _ ?_)
 rw [show ({ s with heap:=s.heap.push { cls := .type "dict",data := .dict #[] } }:Shared).heap.objs.size=s.heap.objs.size+1 from sz1]
 refine wpAny_bind ?_
 rw [List.forIn_nil]
 refine wpAny_pure (wpAny_pure ?_)
 have keep:∀ b o,s.heap.get? b=some o→(pushCells (s.heap.push { cls := .type "dict",data := .dict #[] }) scope.names).get? b=some o:=fun b o e=>pushCells_keeps _ _ b o (Heap.get?_push_of_some _ e)
 refine h _ keep ?_
 have kk:∀ x:Str,(cG X N' scope s H fp).env.kindOf x=(relabel scope X.env).names.lookup x:=fun _=>rfl
 have emptyC:∀ x c,(cellsFrom (s.heap.objs.size+1) scope.names (cA X.env.cells scope.names [])).lookup x=some c→∃ v,(pushCells (s.heap.push { cls := .type "dict",data := .dict #[] }) scope.names).IsCell c v:=fun x c e=>by
  have:=cB (x:=x) (c:=c) scope.names (s.heap.push { cls := .type "dict",data := .dict #[] }) (cA X.env.cells scope.names []) (by rw [sz1];exact PySem.mem_of_lookup e)
  rcases this with z | z
  ·obtain ⟨v,q⟩:=I.cell x c (oldC x c z).2
   exact ⟨v,q.keeps keep⟩
  ·exact ⟨none,z⟩
 refine ⟨⟨I.ok.mod,hk,I.ok.glob,I.ok.blt,Nat.le_refl _,fun y z c h1 h2=>?_,fun y hy=>?_,fun y c hy e=>?_,I.ok.hd,I.ok.frames, .inl rfl,fun b hb=>⟨?_,fun x c e=>?_⟩,I.bs,Nat.le_trans I.ok.bsz I.sz,fun b o e hb=>?_,fun b hb hs=>?_,I.stack,I.stkFree⟩,
  rfl,I.bare,Un.kept keep,⟨fun _=>none,(Heap.Ns.new s.heap (.type "dict")).keeps (pushCells_keeps _ _),fun i x v e1 e2 e3=>?_⟩,emptyC,I.hok.fresh (Nat.le_refl _),fun y c e=>?_,fun p hp=>absurd (show p∈([]:List (Addr × Obj)) from hp) (by simp),I.hok.kept keep,by rw [List.length_map];exact hlen⟩
 ·exact name_of_addr apart (PySem.mem_of_lookup h1) (PySem.mem_of_lookup h2)
 ·rw [kk] at hy
  have hy':scope.names.lookup y=some .cell∨scope.names.lookup y=some .free:=by
   rcases hy with q | q
   ·exact eQ q (.inl rfl)
   ·exact eQ q (.inr rfl)
  refine Option.isSome_iff_exists.mp (PySem.W.cellsFrom_some _ _ _ ?_)
  rcases hy' with q | q
  ·exact .inl q
  ·have hm:=PySem.mem_of_lookup q
   obtain ⟨c,hc⟩:=Option.isSome_iff_exists.mp (hasC _ hm rfl)
   exact .inr (by rw [gG hc _ _ hm];rfl)
 ·have hy:scope.names.lookup y=some .cell:=by simpa using (show (scope.names.lookup y == some NameKind.cell)=true from hy)
  rcases fromC y c e with z | z
  ·exact Nat.le_of_succ_le z.1
  ·have:=bI nd z.1
   rw [hy] at this;cases this
 ·obtain ⟨o,ho⟩:=hfo b hb
  exact Nat.ne_of_lt (Heap.lt_size ho)
 ·rcases fromC x c e with z | z
  ·obtain ⟨o,ho⟩:=hfo b hb
   exact Nat.ne_of_gt (Nat.lt_of_lt_of_le (Heap.lt_size ho) (Nat.le_of_succ_le z.1))
  ·exact (hf b hb).2.2.2.2.1 x c z.2
 ·rcases (hf b hb).2.2.2.1 with z | z
  ·exact I.ok.noex b o e z
  ·exact absurd (Nat.lt_of_lt_of_le (Heap.lt_size (I.ok.bs b o e).1) z) (Nat.lt_irrefl _)
 ·rcases List.mem_cons.mp (I.stkSub b hs) with z | z
  ·exact (hf b hb).2.1 z
  ·exact (hf b hb).2.2.1 z
 ·rw [List.getElem?_map] at e2
  cases hj:ix[i]? with
  | none=>rw [hj] at e2;cases e2
  | some oj=>
   rw [hj] at e2
   have e2:xU σ oj=some v:=by simpa using e2
   cases oj with
   | none=>cases e2
   | some j=>
    have hv:σ[j]?=some (some v):=by
     have e2':(σ[j]?).join=some v:=e2
     cases q:σ[j]? with
     | none=>rw [q] at e2';cases e2'
     | some w=>rw [q] at e2';have:w=some v:=e2';rw [this]
    have hz:(x,some j)∈N'.zip ix:=by
     refine List.mem_of_getElem? (i:=i) ?_
     rw [List.getElem?_zip_eq_some]
     exact ⟨e1,hj⟩
    have:=hix _ hz
    simp only [Bool.and_eq_true,beq_iff_eq] at this
    obtain ⟨n1,n2⟩:=this
    have hm:=PySem.mem_of_lookup n2
    obtain ⟨m,hn,hl⟩:=I.loc
    have kf:=isF (x, .free) hm rfl
    have vis:Vis X.env.scope x:=by
     rcases kf with q | q
     ·exact .inr (.inl q)
     ·exact .inr (.inr q)
    obtain ⟨u,r,l⟩:=hl j x v n1 hv vis
    refine ⟨u,r, .inr ?_⟩
    rcases l with ⟨k1,_⟩ | ⟨_,c,hc,hcell⟩
    ·rcases kf with q | q <;> (rw [show X.env.kindOf x=some NameKind.local from k1] at q;cases q)
    ·refine ⟨?_,c,?_,hcell.keeps keep⟩
     ·rw [kk];exact lE I.ok.kind n2
     ·show (cellsFrom _ _ _).lookup x=some c
      rw [cR,gG hc _ _ hm]
      intro z
      have:=bI nd z
      rw [n2] at this;cases this
 ·rcases fromC y c e with z | z
  ·exact I.hok.fresh (Nat.le_of_succ_le z.1)
  ·exact I.freeC y c z.2
theorem iZ {pins:List (Addr × Obj)}{σ:St}{H:Hp}{s:Shared}{it:Addr}{fp:List Addr}{tn:Nat→Heap→Prop}{J:It}{RR:Value→Addr→Result→Shared→Prop}{E:Value→Shared→Prop}{D:Addr→kA}
  (hc:X.calm=true) (hok:fA X.N scope.names X.env.scope.names N' ix=true) (hk:scope.kind = .function) (hn:∀ g',rest[0]?=some g'→g'.is_async=0)
  (hg:∀ s H fp,PG (cG X N' scope s H fp) target g) (hts:∀ s H fp,PTs (cG X N' scope s H fp) ifs ts)
  (hb:∀ s H fp acc,PB (cG X N' scope s H fp) elt (⟨target,iter,ifs,0⟩ :: rest) scope pos 0 acc (tb acc))
  (I:Inv X pins σ H s) (T:vF X.prog X.w X.K target J fp it tn) (st:tn 0 s.heap) (hf:∀ b∈fp,mG X pins H b)
  (h:∀ acc,H acc=none→iK J g (lH ts (tb acc)) (D acc) (ix.map (xU σ)) (upd H acc (.lst [])))
  (hR:∀ acc C s' H' σ',H acc=none→s.heap.objs.size≤C→Inv X pins σ H' s'→mG X pins H' C→(∃ m,s'.heap.Ns C m)→(D acc).nx σ' H'→RR (.ref acc) C (.ok .next) s') :
  wpAny (model X.prog X.w) X.A (newList []) (fun acc s₃=>wpAny (model X.prog X.w) X.A (newFunctionEnv scope X.env.globals (cA X.env.cells scope.names []) [] X.env.qual none .none (some X.env)) (fun cenv s₄=>
   codeAny (model X.prog X.w) X.A (.compStart (.ListComp elt (⟨target,iter,ifs,0⟩ :: rest) scope pos) 0 (.ref it) acc { cenv with scope:=relabel scope X.env }) (fun r s'=>∃ f,r = .ok f∧RR acc cenv.locals (.ok .next) s') s₄) E s₃) E s:=by
 refine wpAny_newObj_type ?_
 have hnone:H s.heap.objs.size=none:=I.hok.fresh (Nat.le_refl _)
 have I3:Inv X pins σ (upd H s.heap.objs.size (.lst [])) { s with heap:=s.heap.push { cls := .type "list",data := .seq ([]:List Value).toArray } }:=
  I.laid (t':=s.toks) (fun b u e=>Heap.get?_push_of_some _ e) (Nat.le_refl _) ⟨Nat.zero_le _,[],0, .nil,Heap.get?_push_size _ rfl⟩
 have hlt:∀ b∈fp,b<s.heap.objs.size:=fun b hb=>by obtain ⟨o,ho,_⟩:=T.obj 0 _ st b hb;exact Heap.lt_size ho
 have hf3:∀ b∈fp,mG X pins (upd H s.heap.objs.size (.lst [])) b:=fun b hb=>⟨by rw [aJ (Nat.ne_of_lt (hlt b hb))];exact (hf b hb).1,(hf b hb).2⟩
 refine oC (fp:=fp) I3 hok hk hf3 (fun b hb=>?_) fun s4 keep I4=>?_
 ·obtain ⟨o,ho,_⟩:=T.obj 0 _ st b hb
  exact ⟨o,Heap.get?_push_of_some _ ho⟩
 have st4:tn 0 s4.heap:=T.keep 0 _ _ st fun b hb o e=>keep b o (Heap.get?_push_of_some _ e)
 have size3:({ s with heap:=s.heap.push { cls := .type "list",data := .seq ([]:List Value).toArray } }:Shared).heap.objs.size=s.heap.objs.size+1:=Heap.size_push ..
 have hf4:∀ b∈fp,mG (cG X N' scope { s with heap:=s.heap.push { cls := .type "list",data := .seq ([]:List Value).toArray } } (upd H s.heap.objs.size (.lst [])) fp) [] (upd H s.heap.objs.size (.lst [])) b:=fun b hb=>
  ⟨(hf3 b hb).1,(I4.ok.exf b hb).1,I4.ok.exfs b hb, .inl hb,(I4.ok.exf b hb).2,fun p hp=>absurd (show p∈([]:List (Addr × Obj)) from hp) (by simp)⟩
 refine codeAny_mono (pO (X:=cG X N' scope { s with heap:=s.heap.push { cls := .type "list",data := .seq ([]:List Value).toArray } } (upd H s.heap.objs.size (.lst [])) fp) rfl hc (d:=0) (gens:=⟨target,iter,ifs,0⟩ :: rest) rfl hn (hg _ _ _) (hts _ _ _) (hb _ _ _ _) T I4 st4 hf4 (h _ hnone)) fun r s5 ⟨f,hr,σ5,H5,I5,q5⟩=>⟨f,hr,?_⟩
 have I6:Inv X pins σ H5 s5:=I3.call' (ch:=fp) (I5.os.trans rfl) I5.base I5.hok I5.bare fun b hb=>⟨(hf3 b hb).2.2.2.1,(hf3 b hb).2.1,(hf3 b hb).2.2.2.2.1,(hf3 b hb).2.2.2.2.2⟩
 have hC:s.heap.objs.size≤(cG X N' scope { s with heap:=s.heap.push { cls := .type "list",data := .seq ([]:List Value).toArray } } (upd H s.heap.objs.size (.lst [])) fp).env.locals:=by
  show s.heap.objs.size≤_
  exact Nat.le_trans (Nat.le_succ _) (Nat.le_of_eq size3.symm)
 refine hR _ _ s5 H5 σ5 hnone hC I6 (I3.fpOk (Nat.le_refl _) I5.free) ?_ q5
 obtain ⟨m,hm,_⟩:=I5.loc
 exact ⟨m,hm⟩
theorem fS (hok:fA X.N scope.names X.env.scope.names N' ix=true):∀ x∈scope.names,x.2 = .local→scope.names.lookup x.1=some .local:=by
 simp only [fA,Bool.and_eq_true,decide_eq_true_eq,List.all_eq_true] at hok
 intro x hx e
 obtain ⟨n,k⟩:=x
 have e:k = .local:=e
 subst e
 exact bI hok.1.1.1 hx
theorem gM {pins:List (Addr × Obj)}{σ:St}{H:Hp}{s:Shared}(I:Inv X pins σ H s)(hok:fA X.N scope.names X.env.scope.names N' ix=true):closureFor scope X.env=pure (cA X.env.cells scope.names []):=by
 refine iJ fun y hy e=>?_
 simp only [fA,Bool.and_eq_true,decide_eq_true_eq,List.all_eq_true] at hok
 have:=hok.1.1.2 y hy
 have:X.env.scope.names.lookup y.1=some .cell∨X.env.scope.names.lookup y.1=some .free:=by simpa [e] using this
 obtain ⟨c,hc⟩:=I.ok.has y.1 this
 rw [hc];rfl
theorem dD (hok:fA X.N scope.names X.env.scope.names N' ix=true)(hk:scope.kind = .function)(hc:X.calm=true)(hi:PI X target iter wi)
  (hg:∀ s H fp,PG (cG X N' scope s H fp) target g) (hts:∀ s H fp,PTs (cG X N' scope s H fp) ifs ts)
  (hb:∀ s H fp acc,PB (cG X N' scope s H fp) elt (⟨target,iter,ifs,0⟩ :: rest) scope pos 0 acc (tb acc))
  (hn:∀ g',rest[0]?=some g'→g'.is_async=0:=by intro _ h;first | cases h;rfl | cases h) (hs:∀ x,foldedSetIterable iter X.env x=pure x:=by intro _;rfl) :
  PE X (.ListComp elt (⟨target,iter,ifs,0⟩ :: rest) scope pos) (gC ix wi g ts tb):=by
 intro pins s σ H Q I h
 rw [eval_ListComp]
 refine wpAny_comprehension_free (use:=none) rfl hs (gM I hok) hk (fS hok) (thn (hi pins s σ H _ I h) fun xv s₁ h₁=>thn h₁ fun itv s₂ h₂=>?_)
 obtain ⟨it,fp,tn,J,H2,e,I2,T,st2,f2,q2⟩:=h₂
 subst e
 refine thn (iZ (RR:=fun acc C r s'=>compPost (model X.prog X.w) X.A X.xe none (EP X pins σ Q) acc C r s') hc hok hk hn hg hts hb I2 T st2 f2 q2 fun acc C s' H' σ' ha hC I' fC hns q=>?_) fun acc s3 h3=>thn h3 fun cenv s4 h4=>codeAny_mono h4 fun r s5 ⟨f,hr,h5⟩=>?_
 ·obtain ⟨m,hm⟩:=hns
  refine ⟨m,hm,fun h' hs'=>⟨.ref acc,H',I'.turned (t':=s'.toks) (fun b o hb e=>(hs'.2 b hb).trans e) fC.1 fC.2.1 fC.2.2.2.1 fC.2.2.2.2.1 fC.2.2.2.2.2,rfl,q⟩⟩
 ·subst hr
  exact h5
theorem oD {i:Nat}{x:Str}{pos' spos:Pos}(hN:X.N.Nodup)(hix:X.N[i]?=some x)(hx:Loc X.env.scope x)(hok:fA X.N scope.names X.env.scope.names N' ix=true)(hk:scope.kind = .function)(hc:X.calm=true)(hi:PI X target iter wi)
  (hg:∀ s H fp,PG (cG X N' scope s H fp) target g) (hts:∀ s H fp,PTs (cG X N' scope s H fp) ifs ts)
  (hb:∀ s H fp acc,PB (cG X N' scope s H fp) elt (⟨target,iter,ifs,0⟩ :: rest) scope pos 0 acc (tb acc))
  (hsw:swapsWith (.ListComp elt (⟨target,iter,ifs,0⟩ :: rest) scope pos) (some (.Name x pos')) spos.line X.env=pure true:=by rfl)
  (hf:X.fn x=true∨X.env.scope.names.lookup x=some .local:=by first | exact .inl rfl | exact .inr rfl | assumption)
  (hn:∀ g',rest[0]?=some g'→g'.is_async=0:=by intro _ h;first | cases h;rfl | cases h) (hs:∀ x,foldedSetIterable iter X.env x=pure x:=by intro _;rfl) :
  PS X (.Assign [.Name x pos'] (.ListComp elt (⟨target,iter,ifs,0⟩ :: rest) scope pos) spos) (cY (gC ix wi g ts tb) (aO i)):=by
 intro pins s σ H D I h
 rw [exec_Assign_Name_used _ _ _ _ hsw]
 refine wpAny_bind (wpAny_standAt (wpAny_bind ?_))
 show wpAny _ X.A (do let _ ← comprehension (.ListComp elt (⟨target,iter,ifs,0⟩ :: rest) scope pos) scope X.env _ (newList []) false (eval iter X.env) (some (assign (.Name x pos') X.env))) _ _ s
 refine wpAny_bind (wpAny_mono (wpAny_comprehension_free (use:=some (assign (.Name x pos') X.env)) (Q:=fun _ s'=>SP X pins D .next s') rfl hs (gM I hok) hk (fS hok) (thn (hi pins s σ H _ I h) fun xv s₁ h₁=>thn h₁ fun itv s₂ h₂=>?_)) (fun _ s' hq=>wpAny_pure (wpAny_pure hq)) fun _ _ e=>e)
 obtain ⟨it,fp,tn,J,H2,e,I2,T,st2,f2,q2⟩:=h₂
 subst e
 refine thn (iZ (RR:=fun acc C r s'=>compPost (model X.prog X.w) X.A X.xe (some (assign (.Name x pos') X.env)) (fun _ s'=>SP X pins D .next s') acc C r s') hc hok hk hn hg hts hb I2 T st2 f2 q2 fun acc C s' H' σ' ha hC I' fC hns q=>?_) fun acc s3 h3=>thn h3 fun cenv s4 h4=>codeAny_mono h4 fun r s5 ⟨f,hr,h5⟩=>?_
 ·obtain ⟨m,hm⟩:=hns
  show wpAny _ X.A (assign (.Name x pos') X.env (.ref acc)) _ _ _
  refine wpAny_assign_Name (lN I' hN hix hx (v := .ref acc) rfl (fun s6 I6 ⟨a,hsb,ha6⟩=>?_) hf)
  have hCa:C≠a:=by
   rcases ha6 with z | z
   ·rw [z];exact fC.2.1
   ·exact (fC.2.2.2.2.1 x a z).symm
  refine ⟨m,hm.sameBut hsb hCa,fun h' hs'=>⟨_,H',I6.turned (t':=s6.toks) (fun b o hb e=>(hs'.2 b hb).trans e) fC.1 fC.2.1 fC.2.2.2.1 fC.2.2.2.2.1 fC.2.2.2.2.2,q⟩⟩
 ·subst hr
  exact h5
end
end L2
namespace L2
open PySem PySem.Spec PyProof.Rows
theorem Same.tup {K:PySem.W.Frag}{H H':Hp}{a:Addr}{xs:List V}(e:Same H H')(h:SqT K H a xs):SqT K H' a xs:=by
 rcases h with (h | ⟨o,h⟩) | h
 ·exact .inl (.inl (e _ _ h))
 ·exact .inl (.inr ⟨o,e _ _ h⟩)
 ·exact .inr h
inductive Dt where
 | non | bl (b:Bool) | int (i:Int) | str (x:Str) | tup (ds:List Dt) | lst (ds:List Dt)
mutual
noncomputable def Sh (K:PySem.W.Frag) (H:Hp):Dt→V→Prop
 | .non,v=>v = .non
 | .bl b,v=>v = .bl b
 | .int i,v=>v = .int i
 | .str x,v=>v = .str x
 | .tup ds,v=>∃ a xs,v = .ref a∧SqT K H a xs∧ShL K H ds xs
 | .lst ds,v=>∃ a xs,v = .ref a∧SqL K H a xs∧ShL K H ds xs
noncomputable def ShL (K:PySem.W.Frag) (H:Hp):List Dt→List V→Prop
 | [],xs=>xs=[]
 | d :: ds,xs=>∃ x r,xs=x :: r∧Sh K H d x∧ShL K H ds r
end
mutual
noncomputable def eqD:Dt→Dt→Bool
 | .non, .non=>true
 | .bl a, .bl b=>a == b
 | .int a, .int b=>a == b
 | .str a, .str b=>a == b
 | .bl a, .int b=>(if a then 1 else 0) == b
 | .int a, .bl b=>a == (if b then 1 else 0)
 | .tup ds, .tup es=>eqL ds es
 | .lst ds, .lst es=>eqL ds es
 | _,_=>false
noncomputable def eqL:List Dt→List Dt→Bool
 | [],[]=>true
 | d :: ds,e :: es=>eqD d e && eqL ds es
 | _,_=>false
end
mutual
noncomputable def dep:Dt→Nat
 | .tup ds=>mC ds+1
 | .lst ds=>mC ds+1
 | _=>0
noncomputable def mC:List Dt→Nat
 | []=>0
 | d :: ds=>max (dep d) (mC ds)
end
section
variable {K:PySem.W.Frag}{H H':Hp}
mutual
theorem Sh.same (e:Same H H'):∀ {d:Dt} {v:V},Sh K H d v→Sh K H' d v
 | .non,_,h=>h
 | .bl _,_,h=>h
 | .int _,_,h=>h
 | .str _,_,h=>h
 | .tup ds,_,⟨a,xs,h1,h2,h3⟩=>⟨a,xs,h1,e.tup h2,ShL.same e h3⟩
 | .lst ds,_,⟨a,xs,h1,h2,h3⟩=>⟨a,xs,h1,e.seq h2,ShL.same e h3⟩
theorem ShL.same (e:Same H H'):∀ {ds:List Dt} {xs:List V},ShL K H ds xs→ShL K H' ds xs
 | [],_,h=>h
 | d :: ds,_,⟨x,r,h1,h2,h3⟩=>⟨x,r,h1,Sh.same e h2,ShL.same e h3⟩
end
theorem ShL.length:∀ {ds:List Dt} {xs:List V},ShL K H ds xs→ds.length=xs.length
 | [],_,h=>by rw [show _=[] from h];rfl
 | d :: ds,_,⟨x,r,h1,h2,h3⟩=>by rw [h1,List.length_cons,List.length_cons,ShL.length h3]
theorem ShL.get:∀ {ds:List Dt} {xs:List V} {j:Nat} {d:Dt},ShL K H ds xs→ds[j]?=some d→∃ x,xs[j]?=some x∧Sh K H d x
 | [],_,_,_,_,h=>by simp at h
 | d :: ds,_,0,e,⟨x,r,h1,h2,h3⟩,h=>by
  have:d=e:=by simpa using h
  subst this
  exact ⟨x,by rw [h1];rfl,h2⟩
 | d :: ds,_,j+1,e,⟨x,r,h1,h2,h3⟩,h=>by
  obtain ⟨y,h4,h5⟩:=ShL.get (j:=j) h3 (by simpa using h)
  exact ⟨y,by rw [h1];simpa using h4,h5⟩
theorem ShL.ints:∀ (ns:List Int),ShL K H (ns.map Dt.int) (ns.map V.int)
 | []=>rfl
 | n :: ns=>⟨.int n,ns.map V.int,rfl,rfl,ShL.ints ns⟩
theorem ShL.of_ints:∀ {ns:List Int} {xs:List V},ShL K H (ns.map Dt.int) xs→xs=ns.map V.int
 | [],_,h=>h
 | n :: ns,_,⟨x,r,h1,h2,h3⟩=>by rw [h1,ShL.of_ints h3,show x=V.int n from h2];rfl
end
mutual
theorem gH:∀ d:Dt,eqD d d=true
 | .non=>by unfold eqD;rfl
 | .bl b=>by unfold eqD;simp
 | .int b=>by unfold eqD;simp
 | .str b=>by unfold eqD;simp
 | .tup ds=>by unfold eqD;exact eM ds
 | .lst ds=>by unfold eqD;exact eM ds
theorem eM:∀ ds:List Dt,eqL ds ds=true
 | []=>by unfold eqL;rfl
 | d :: ds=>by unfold eqL;rw [gH d,eM ds];rfl
end
theorem fI:∀ {ds es:List Dt},eqL ds es=true→ds.length=es.length
 | [],[],_=>rfl
 | [],_ :: _,h=>by unfold eqL at h;cases h
 | _ :: _,[],h=>by unfold eqL at h;cases h
 | d :: ds,e :: es,h=>by
  unfold eqL at h
  rw [List.length_cons,List.length_cons,fI (Bool.and_eq_true_iff.mp h).2]
theorem dR (n:Nat)(f:Nat→Bool):(List.range (n+1)).all f=(f 0 && (List.range n).all fun j=>f (j+1)):=by
 rw [List.range_succ_eq_map,List.all_cons,List.all_map]
 rfl
theorem gX:∀ (ds es:List Dt),((List.range (min ds.length es.length)).all (fun j=>eqD (ds.getD j .non) (es.getD j .non)) && ds.length == es.length)=eqL ds es
 | [],[]=>by unfold eqL;rfl
 | [],e :: es=>by unfold eqL;simp
 | d :: ds,[]=>by unfold eqL;simp
 | d :: ds,e :: es=>by
  have ih:=gX ds es
  unfold eqL
  rw [← ih,List.length_cons,List.length_cons,Nat.succ_min_succ,dR,Bool.and_assoc]
  congr 1
  congr 1
  simp
theorem kF {ds:List Dt}{j:Nat}{d:Dt}(h:ds[j]?=some d):dep d≤mC ds:=by
 induction ds generalizing j with
 | nil=>simp at h
 | cons e es ih=>
  unfold mC
  cases j with
  | zero=>
   have:e=d:=by simpa using h
   subst this
   exact Nat.le_max_left _ _
  | succ j=>exact Nat.le_trans (ih (by simpa using h)) (Nat.le_max_right _ _)
section
variable {X:Cx}{pins:List (Addr × Obj)}{σ:St}{H:Hp}{s:Shared}
theorem Inv.tl_ne (I:Inv X pins σ H s){a:Addr}{xs ys:List V}(h:SqT X.K H a xs)(h':SqL X.K H a ys):False:=by
 obtain ⟨its,r,⟨o,e,c,n,d⟩,_⟩:=I.tuple h
 obtain ⟨its',r',⟨o',n',e',c',_,d'⟩,_⟩:=I.list h'
 rw [e] at e';cases e'
 rw [c] at c';simp at c'
mutual
theorem Inv.sh_inj (I:Inv X pins σ H s):∀ {d e:Dt} {v:V},Sh X.K H d v→Sh X.K H e v→d=e
 | .non,e,v,h,h'=>by
  have h:v = .non:=h
  subst h
  cases e <;> first | rfl | (exact absurd (show V.non=_ from h') (fun z=>nomatch z)) | (obtain ⟨_,_,z,_⟩:=h';cases z)
 | .bl b,e,v,h,h'=>by
  have h:v = .bl b:=h
  subst h
  cases e <;> first | (cases (show V.bl b=V.bl _ from h');rfl) | (exact absurd (show V.bl b=_ from h') (fun z=>nomatch z)) | (obtain ⟨_,_,z,_⟩:=h';cases z)
 | .int b,e,v,h,h'=>by
  have h:v = .int b:=h
  subst h
  cases e <;> first | (cases (show V.int b=V.int _ from h');rfl) | (exact absurd (show V.int b=_ from h') (fun z=>nomatch z)) | (obtain ⟨_,_,z,_⟩:=h';cases z)
 | .str b,e,v,h,h'=>by
  have h:v = .str b:=h
  subst h
  cases e <;> first | (cases (show V.str b=V.str _ from h');rfl) | (exact absurd (show V.str b=_ from h') (fun z=>nomatch z)) | (obtain ⟨_,_,z,_⟩:=h';cases z)
 | .tup ds,e,v,⟨a,xs,h1,h2,h3⟩,h'=>by
  subst h1
  cases e with
  | tup es=>
   obtain ⟨a',xs',z,h2',h3'⟩:=h'
   cases z
   rw [I.tuple_inj h2' h2] at h3'
   rw [Inv.shL_inj I h3 h3']
  | lst es=>
   obtain ⟨a',xs',z,h2',h3'⟩:=h'
   cases z
   exact (I.tl_ne h2 h2').elim
  | _=>exact absurd (show V.ref a=_ from h') (fun z=>nomatch z)
 | .lst ds,e,v,⟨a,xs,h1,h2,h3⟩,h'=>by
  subst h1
  cases e with
  | lst es=>
   obtain ⟨a',xs',z,h2',h3'⟩:=h'
   cases z
   rw [I.list_inj h2' h2] at h3'
   rw [Inv.shL_inj I h3 h3']
  | tup es=>
   obtain ⟨a',xs',z,h2',h3'⟩:=h'
   cases z
   exact (I.tl_ne h2' h2).elim
  | _=>exact absurd (show V.ref a=_ from h') (fun z=>nomatch z)
theorem Inv.shL_inj (I:Inv X pins σ H s):∀ {ds es:List Dt} {xs:List V},ShL X.K H ds xs→ShL X.K H es xs→ds=es
 | [],[],_,_,_=>rfl
 | [],e :: es,_,h,⟨x,r,h1,_⟩=>by rw [show _=[] from h] at h1;cases h1
 | d :: ds,[],_,⟨x,r,h1,_⟩,h=>by rw [show _=[] from h] at h1;cases h1
 | d :: ds,e :: es,_,⟨x,r,h1,h2,h3⟩,⟨x',r',h1',h2',h3'⟩=>by
  rw [h1] at h1'
  cases h1'
  rw [Inv.sh_inj I h2 h2',Inv.shL_inj I h3 h3']
end
end
end L2
namespace L2
open PySem PySem.Spec PyProof.Rows
section
variable {X:Cx}{pins:List (Addr × Obj)}{σ:St}{H:Hp}{s:Shared}
open PySem.SeqAt
theorem gJ {ds es:List Dt}{xs ys:List V}{us vs:List Value}(hs:ShL X.K H ds xs)(hr:Vals xs us)(hs':ShL X.K H es ys)(hr':Vals ys vs){A:Around}
  (h:∀ (d e:Dt) (x y:V) (u v:Value),(∃ j:Nat,ds[j]?=some d)→RelV x u→RelV y v→Sh X.K H d x→Sh X.K H e y→EqAt A s u v (eqD d e)) :
  ∀ j (h1:j<us.toArray.size) (h2:j<vs.toArray.size),EqAt A s us.toArray[j] vs.toArray[j] (eqD (ds.getD j .non) (es.getD j .non)):=by
 intro j h1 h2
 have l1:=hs.length
 have l2:=hr.length
 have l3:=hs'.length
 have l4:=hr'.length
 have g1:j<us.length:=by simpa using h1
 have g2:j<vs.length:=by simpa using h2
 have e1:ds[j]?=some (ds.getD j .non):=by rw [List.getD_eq_getElem?_getD,List.getElem?_eq_getElem (by omega)];rfl
 have e2:es[j]?=some (es.getD j .non):=by rw [List.getD_eq_getElem?_getD,List.getElem?_eq_getElem (by omega)];rfl
 obtain ⟨x,hx,sx⟩:=hs.get e1
 obtain ⟨y,hy,sy⟩:=hs'.get e2
 obtain ⟨u,hu,ru⟩:=hr.get hx
 obtain ⟨v,hv,rv⟩:=hr'.get hy
 have q1:us.toArray[j]=u:=by
  rw [List.getElem?_eq_getElem g1] at hu
  simpa using hu
 have q2:vs.toArray[j]=v:=by
  rw [List.getElem?_eq_getElem g2] at hv
  simpa using hv
 rw [q1,q2]
 exact h _ _ x y u v ⟨j,e1⟩ ru rv sx sy
theorem Inv.eq_sh (I:Inv X pins σ H s):∀ (n:Nat) (A:Around) (d e:Dt) (x y:V) (u v:Value),dep d≤n→A.units+n<cLine→RelV x u→RelV y v→Sh X.K H d x→Sh X.K H e y→RcAt A s u v (eqD d e)∧EqAt A s u v (eqD d e):=by
 intro n
 induction n with
 | zero=>
  intro A d e x y u v hd hu rx ry hx hy
  have hu0:A.units<cLine:=by omega
  cases d with
  | tup ds=>unfold dep at hd;omega
  | lst ds=>unfold dep at hd;omega
  | non=>
   obtain rfl:x = .non:=hx
   obtain rfl:u=Value.none:=rx
   cases e with
   | non=>obtain rfl:y = .non:=hy;obtain rfl:v=Value.none:=ry;unfold eqD;exact ⟨RcAt.none_none,EqAt.same _⟩
   | bl b=>obtain rfl:y = .bl b:=hy;obtain rfl:v=Value.bool b:=ry;unfold eqD;exact ⟨RcAt.none_bool b,EqAt.none_bool b⟩
   | int b=>obtain rfl:y = .int b:=hy;obtain ⟨t,rfl⟩:=ry;unfold eqD;exact ⟨RcAt.none_int b t,EqAt.none_int b t⟩
   | str b=>obtain rfl:y = .str b:=hy;obtain ⟨t,rfl⟩:=ry;unfold eqD;exact ⟨RcAt.none_str b t,EqAt.none_str b t⟩
   | tup es=>obtain ⟨b,ys,rfl,hq,_⟩:=hy;obtain rfl:v=Value.ref b:=ry;obtain ⟨its,_,p,_⟩:=I.tuple hq;unfold eqD;exact ⟨RcAt.none_tuple (show s.heap.IsTuple b its.toArray from p) hu0,EqAt.none_tuple (show s.heap.IsTuple b its.toArray from p) hu0⟩
   | lst es=>obtain ⟨b,ys,rfl,hq,_⟩:=hy;obtain rfl:v=Value.ref b:=ry;obtain ⟨its,_,p,_⟩:=I.list hq;unfold eqD;exact ⟨RcAt.none_list p.isList hu0,EqAt.none_list p.isList hu0⟩
  | bl a=>
   obtain rfl:x = .bl a:=hx
   obtain rfl:u=Value.bool a:=rx
   cases e with
   | non=>obtain rfl:y = .non:=hy;obtain rfl:v=Value.none:=ry;unfold eqD;exact ⟨RcAt.bool_none a,EqAt.bool_none a⟩
   | bl b=>obtain rfl:y = .bl b:=hy;obtain rfl:v=Value.bool b:=ry;unfold eqD;exact ⟨RcAt.bool_bool a b,EqAt.bool_bool a b⟩
   | int b=>obtain rfl:y = .int b:=hy;obtain ⟨t,rfl⟩:=ry;unfold eqD;exact ⟨RcAt.bool_int a b t,EqAt.bool_int a b t⟩
   | str b=>obtain rfl:y = .str b:=hy;obtain ⟨t,rfl⟩:=ry;unfold eqD;exact ⟨RcAt.bool_str a b t,EqAt.bool_str a b t⟩
   | tup es=>obtain ⟨b,ys,rfl,hq,_⟩:=hy;obtain rfl:v=Value.ref b:=ry;obtain ⟨its,_,p,_⟩:=I.tuple hq;unfold eqD;exact ⟨RcAt.bool_tuple a (show s.heap.IsTuple b its.toArray from p) hu0,EqAt.bool_tuple a (show s.heap.IsTuple b its.toArray from p) hu0⟩
   | lst es=>obtain ⟨b,ys,rfl,hq,_⟩:=hy;obtain rfl:v=Value.ref b:=ry;obtain ⟨its,_,p,_⟩:=I.list hq;unfold eqD;exact ⟨RcAt.bool_list a p.isList hu0,EqAt.bool_list a p.isList hu0⟩
  | int a=>
   obtain rfl:x = .int a:=hx
   obtain ⟨t0,rfl⟩:=rx
   cases e with
   | non=>obtain rfl:y = .non:=hy;obtain rfl:v=Value.none:=ry;unfold eqD;exact ⟨RcAt.int_none a t0,EqAt.int_none a t0⟩
   | bl b=>obtain rfl:y = .bl b:=hy;obtain rfl:v=Value.bool b:=ry;unfold eqD;exact ⟨RcAt.int_bool a t0 b,EqAt.int_bool a t0 b⟩
   | int b=>obtain rfl:y = .int b:=hy;obtain ⟨t,rfl⟩:=ry;unfold eqD;exact ⟨RcAt.int_int a t0 b t,EqAt.int_int a t0 b t⟩
   | str b=>obtain rfl:y = .str b:=hy;obtain ⟨t,rfl⟩:=ry;unfold eqD;exact ⟨RcAt.int_str a t0 b t,EqAt.int_str a t0 b t⟩
   | tup es=>obtain ⟨b,ys,rfl,hq,_⟩:=hy;obtain rfl:v=Value.ref b:=ry;obtain ⟨its,_,p,_⟩:=I.tuple hq;unfold eqD;exact ⟨RcAt.int_tuple a t0 (show s.heap.IsTuple b its.toArray from p) hu0,EqAt.int_tuple a t0 (show s.heap.IsTuple b its.toArray from p) hu0⟩
   | lst es=>obtain ⟨b,ys,rfl,hq,_⟩:=hy;obtain rfl:v=Value.ref b:=ry;obtain ⟨its,_,p,_⟩:=I.list hq;unfold eqD;exact ⟨RcAt.int_list a t0 p.isList hu0,EqAt.int_list a t0 p.isList hu0⟩
  | str a=>
   obtain rfl:x = .str a:=hx
   obtain ⟨t0,rfl⟩:=rx
   cases e with
   | non=>obtain rfl:y = .non:=hy;obtain rfl:v=Value.none:=ry;unfold eqD;exact ⟨RcAt.str_none a t0,EqAt.str_none a t0⟩
   | bl b=>obtain rfl:y = .bl b:=hy;obtain rfl:v=Value.bool b:=ry;unfold eqD;exact ⟨RcAt.str_bool a t0 b,EqAt.str_bool a t0 b⟩
   | int b=>obtain rfl:y = .int b:=hy;obtain ⟨t,rfl⟩:=ry;unfold eqD;exact ⟨RcAt.str_int a t0 b t,EqAt.str_int a t0 b t⟩
   | str b=>obtain rfl:y = .str b:=hy;obtain ⟨t,rfl⟩:=ry;unfold eqD;exact ⟨RcAt.str_str a t0 b t,EqAt.str_str a t0 b t⟩
   | tup es=>obtain ⟨b,ys,rfl,hq,_⟩:=hy;obtain rfl:v=Value.ref b:=ry;obtain ⟨its,_,p,_⟩:=I.tuple hq;unfold eqD;exact ⟨RcAt.str_tuple a t0 (show s.heap.IsTuple b its.toArray from p) hu0,EqAt.str_tuple a t0 (show s.heap.IsTuple b its.toArray from p) hu0⟩
   | lst es=>obtain ⟨b,ys,rfl,hq,_⟩:=hy;obtain rfl:v=Value.ref b:=ry;obtain ⟨its,_,p,_⟩:=I.list hq;unfold eqD;exact ⟨RcAt.str_list a t0 p.isList hu0,EqAt.str_list a t0 p.isList hu0⟩
 | succ n ih=>
  intro A d e x y u v hd hu rx ry hx hy
  have hu0:A.units<cLine:=by omega
  by_cases hd0:dep d≤n
  ·exact ih A d e x y u v hd0 (by omega) rx ry hx hy
  cases d with
  | non=>exact absurd (Nat.zero_le _) hd0
  | bl a=>exact absurd (Nat.zero_le _) hd0
  | int a=>exact absurd (Nat.zero_le _) hd0
  | str a=>exact absurd (Nat.zero_le _) hd0
  | tup ds=>
   have hdd:mC ds≤n:=by unfold dep at hd;omega
   have hx0:=hx
   obtain ⟨a,xs,rfl,hq,hl⟩:=hx
   obtain rfl:u=Value.ref a:=rx
   obtain ⟨its,rv,p,_⟩:=I.tuple hq
   have p:s.heap.IsTuple a its.toArray:=p
   cases e with
   | non=>obtain rfl:y = .non:=hy;obtain rfl:v=Value.none:=ry;unfold eqD;exact ⟨RcAt.tuple_none p hu0,EqAt.tuple_none p hu0⟩
   | bl b=>obtain rfl:y = .bl b:=hy;obtain rfl:v=Value.bool b:=ry;unfold eqD;exact ⟨RcAt.tuple_bool b p hu0,EqAt.tuple_bool b p hu0⟩
   | int b=>obtain rfl:y = .int b:=hy;obtain ⟨t,rfl⟩:=ry;unfold eqD;exact ⟨RcAt.tuple_int b t p hu0,EqAt.tuple_int b t p hu0⟩
   | str b=>obtain rfl:y = .str b:=hy;obtain ⟨t,rfl⟩:=ry;unfold eqD;exact ⟨RcAt.tuple_str b t p hu0,EqAt.tuple_str b t p hu0⟩
   | lst es=>obtain ⟨b,ys,rfl,hq',_⟩:=hy;obtain rfl:v=Value.ref b:=ry;obtain ⟨its',_,p',_⟩:=I.list hq';unfold eqD;exact ⟨RcAt.tuple_list p p'.isList hu0,EqAt.tuple_list p p'.isList hu0⟩
   | tup es=>
    have hy0:=hy
    obtain ⟨b,ys,rfl,hq',hl'⟩:=hy
    obtain rfl:v=Value.ref b:=ry
    obtain ⟨its',rv',p',_⟩:=I.tuple hq'
    have p':s.heap.IsTuple b its'.toArray:=p'
    have he:=gJ (A:=A.in1) (s:=s) hl rv hl' rv' (fun d e x y u v ⟨j,hj⟩ r1 r2 s1 s2=>(ih A.in1 d e x y u v (Nat.le_trans (kF hj) hdd) (by show A.units+1+n<cLine;omega) r1 r2 s1 s2).2)
    have rc:=RcAt.tuples p p' hu0 he
    have l1:=hl.length
    have l2:=rv.length
    have l3:=hl'.length
    have l4:=rv'.length
    rw [List.size_toArray,List.size_toArray,← l2,← l4,← l1,← l3,gX] at rc
    unfold eqD
    refine ⟨rc,?_⟩
    by_cases hab:a=b
    ·subst hab
     have:=I.sh_inj hx0 hy0
     cases this
     rw [eM]
     exact EqAt.same _
    ·exact EqAt.of_refs hab rc
  | lst ds=>
   have hdd:mC ds≤n:=by unfold dep at hd;omega
   have hx0:=hx
   obtain ⟨a,xs,rfl,hq,hl⟩:=hx
   obtain rfl:u=Value.ref a:=rx
   obtain ⟨its,rv,p,_⟩:=I.list hq
   have p:=p.isList
   cases e with
   | non=>obtain rfl:y = .non:=hy;obtain rfl:v=Value.none:=ry;unfold eqD;exact ⟨RcAt.list_none p hu0,EqAt.list_none p hu0⟩
   | bl b=>obtain rfl:y = .bl b:=hy;obtain rfl:v=Value.bool b:=ry;unfold eqD;exact ⟨RcAt.list_bool b p hu0,EqAt.list_bool b p hu0⟩
   | int b=>obtain rfl:y = .int b:=hy;obtain ⟨t,rfl⟩:=ry;unfold eqD;exact ⟨RcAt.list_int b t p hu0,EqAt.list_int b t p hu0⟩
   | str b=>obtain rfl:y = .str b:=hy;obtain ⟨t,rfl⟩:=ry;unfold eqD;exact ⟨RcAt.list_str b t p hu0,EqAt.list_str b t p hu0⟩
   | tup es=>obtain ⟨b,ys,rfl,hq',_⟩:=hy;obtain rfl:v=Value.ref b:=ry;obtain ⟨its',_,p',_⟩:=I.tuple hq';unfold eqD;exact ⟨RcAt.list_tuple p (show s.heap.IsTuple b its'.toArray from p') hu0,EqAt.list_tuple p (show s.heap.IsTuple b its'.toArray from p') hu0⟩
   | lst es=>
    have hy0:=hy
    obtain ⟨b,ys,rfl,hq',hl'⟩:=hy
    obtain rfl:v=Value.ref b:=ry
    obtain ⟨its',rv',p',_⟩:=I.list hq'
    have p':=p'.isList
    have l1:=hl.length
    have l2:=rv.length
    have l3:=hl'.length
    have l4:=rv'.length
    have rc:RcAt A s (.ref a) (.ref b) (eqL ds es):=by
     by_cases hz:ds.length=es.length
     ·have he:=gJ (A:=A.in1) (s:=s) hl rv hl' rv' (fun d e x y u v ⟨j,hj⟩ r1 r2 s1 s2=>(ih A.in1 d e x y u v (Nat.le_trans (kF hj) hdd) (by show A.units+1+n<cLine;omega) r1 r2 s1 s2).2)
      have rc:=RcAt.lists p p' (by rw [List.size_toArray,List.size_toArray];omega) hu0 he
      rw [List.size_toArray,← l2,← l1] at rc
      have q:=gX ds es
      rw [← hz,Nat.min_self,beq_self_eq_true,Bool.and_true] at q
      rw [← q]
      exact rc
     ·have q:eqL ds es=false:=by
       cases q:eqL ds es with
       | false=>rfl
       | true=>exact absurd (fI q) hz
      rw [q]
      exact RcAt.lists_lengths p p' (by rw [List.size_toArray,List.size_toArray];simp;omega) hu0
    unfold eqD
    refine ⟨rc,?_⟩
    by_cases hab:a=b
    ·subst hab
     have:=I.sh_inj hx0 hy0
     cases this
     rw [eM]
     exact EqAt.same _
    ·exact EqAt.of_refs hab rc
noncomputable def qY (K:PySem.W.Frag):R2:=fun x y H Q=>∃ d e,dep d≤100∧Sh K H d x∧Sh K H e y∧Q (.bl (eqD d e)) H
theorem wJ (hu:X.A.units+100<cLine):OpR X (compareOp .Eq) (qY X.K):=by
 intro pins s σ H x y v u Q I rx ry ⟨d,e,hd,hx,hy,q⟩
 exact (I.eq_sh 100 X.A d e x y v u hd hu rx ry hx hy).1 X.prog X.w X.xe _ ⟨.bl _,H,I,rfl,q⟩
end
end L2
namespace L2
open PySem PySem.Spec PyProof.Rows
section
variable {X:Cx}{pins:List (Addr × Obj)}{σ:St}{H:Hp}{s:Shared}
open PySem.SeqAt
theorem Inv.ne_sh (I:Inv X pins σ H s){A:Around}(d e:Dt)(x y:V)(u v:Value)(hd:dep d≤100)(hu:A.units+101<cLine)(rx:RelV x u)(ry:RelV y v)(hx:Sh X.K H d x)(hy:Sh X.K H e y):RcNeAt A s u v (!eqD d e):=by
 have hu0:A.units<cLine:=by omega
 cases d with
 | non=>
  obtain rfl:x = .non:=hx
  obtain rfl:u=Value.none:=rx
  cases e with
  | non=>obtain rfl:y = .non:=hy;obtain rfl:v=Value.none:=ry;unfold eqD;exact RcNeAt.none_none
  | bl b=>obtain rfl:y = .bl b:=hy;obtain rfl:v=Value.bool b:=ry;unfold eqD;exact RcNeAt.none_bool b
  | int b=>obtain rfl:y = .int b:=hy;obtain ⟨t,rfl⟩:=ry;unfold eqD;exact RcNeAt.none_int b t
  | str b=>obtain rfl:y = .str b:=hy;obtain ⟨t,rfl⟩:=ry;unfold eqD;exact RcNeAt.none_str b t
  | tup es=>obtain ⟨b,ys,rfl,hq,_⟩:=hy;obtain rfl:v=Value.ref b:=ry;obtain ⟨its,_,p,_⟩:=I.tuple hq;unfold eqD;exact RcNeAt.none_tuple (show s.heap.IsTuple b its.toArray from p) hu0
  | lst es=>obtain ⟨b,ys,rfl,hq,_⟩:=hy;obtain rfl:v=Value.ref b:=ry;obtain ⟨its,_,p,_⟩:=I.list hq;unfold eqD;exact RcNeAt.none_list p.isList hu0
 | bl a=>
  obtain rfl:x = .bl a:=hx
  obtain rfl:u=Value.bool a:=rx
  cases e with
  | non=>obtain rfl:y = .non:=hy;obtain rfl:v=Value.none:=ry;unfold eqD;exact RcNeAt.bool_none a
  | bl b=>obtain rfl:y = .bl b:=hy;obtain rfl:v=Value.bool b:=ry;unfold eqD;exact RcNeAt.bool_bool a b
  | int b=>obtain rfl:y = .int b:=hy;obtain ⟨t,rfl⟩:=ry;unfold eqD;exact RcNeAt.bool_int a b t
  | str b=>obtain rfl:y = .str b:=hy;obtain ⟨t,rfl⟩:=ry;unfold eqD;exact RcNeAt.bool_str a b t
  | tup es=>obtain ⟨b,ys,rfl,hq,_⟩:=hy;obtain rfl:v=Value.ref b:=ry;obtain ⟨its,_,p,_⟩:=I.tuple hq;unfold eqD;exact RcNeAt.bool_tuple a (show s.heap.IsTuple b its.toArray from p) hu0
  | lst es=>obtain ⟨b,ys,rfl,hq,_⟩:=hy;obtain rfl:v=Value.ref b:=ry;obtain ⟨its,_,p,_⟩:=I.list hq;unfold eqD;exact RcNeAt.bool_list a p.isList hu0
 | int a=>
  obtain rfl:x = .int a:=hx
  obtain ⟨t0,rfl⟩:=rx
  cases e with
  | non=>obtain rfl:y = .non:=hy;obtain rfl:v=Value.none:=ry;unfold eqD;exact RcNeAt.int_none a t0
  | bl b=>obtain rfl:y = .bl b:=hy;obtain rfl:v=Value.bool b:=ry;unfold eqD;exact RcNeAt.int_bool a t0 b
  | int b=>obtain rfl:y = .int b:=hy;obtain ⟨t,rfl⟩:=ry;unfold eqD;exact RcNeAt.int_int a t0 b t
  | str b=>obtain rfl:y = .str b:=hy;obtain ⟨t,rfl⟩:=ry;unfold eqD;exact RcNeAt.int_str a t0 b t
  | tup es=>obtain ⟨b,ys,rfl,hq,_⟩:=hy;obtain rfl:v=Value.ref b:=ry;obtain ⟨its,_,p,_⟩:=I.tuple hq;unfold eqD;exact RcNeAt.int_tuple a t0 (show s.heap.IsTuple b its.toArray from p) hu0
  | lst es=>obtain ⟨b,ys,rfl,hq,_⟩:=hy;obtain rfl:v=Value.ref b:=ry;obtain ⟨its,_,p,_⟩:=I.list hq;unfold eqD;exact RcNeAt.int_list a t0 p.isList hu0
 | str a=>
  obtain rfl:x = .str a:=hx
  obtain ⟨t0,rfl⟩:=rx
  cases e with
  | non=>obtain rfl:y = .non:=hy;obtain rfl:v=Value.none:=ry;unfold eqD;exact RcNeAt.str_none a t0
  | bl b=>obtain rfl:y = .bl b:=hy;obtain rfl:v=Value.bool b:=ry;unfold eqD;exact RcNeAt.str_bool a t0 b
  | int b=>obtain rfl:y = .int b:=hy;obtain ⟨t,rfl⟩:=ry;unfold eqD;exact RcNeAt.str_int a t0 b t
  | str b=>obtain rfl:y = .str b:=hy;obtain ⟨t,rfl⟩:=ry;unfold eqD;exact RcNeAt.str_str a t0 b t
  | tup es=>obtain ⟨b,ys,rfl,hq,_⟩:=hy;obtain rfl:v=Value.ref b:=ry;obtain ⟨its,_,p,_⟩:=I.tuple hq;unfold eqD;exact RcNeAt.str_tuple a t0 (show s.heap.IsTuple b its.toArray from p) hu0
  | lst es=>obtain ⟨b,ys,rfl,hq,_⟩:=hy;obtain rfl:v=Value.ref b:=ry;obtain ⟨its,_,p,_⟩:=I.list hq;unfold eqD;exact RcNeAt.str_list a t0 p.isList hu0
 | tup ds=>
  have hdd:mC ds≤100:=by unfold dep at hd;omega
  obtain ⟨a,xs,rfl,hq,hl⟩:=hx
  obtain rfl:u=Value.ref a:=rx
  obtain ⟨its,rv,p,_⟩:=I.tuple hq
  have p:s.heap.IsTuple a its.toArray:=p
  cases e with
  | non=>obtain rfl:y = .non:=hy;obtain rfl:v=Value.none:=ry;unfold eqD;exact RcNeAt.tuple_none p hu0
  | bl b=>obtain rfl:y = .bl b:=hy;obtain rfl:v=Value.bool b:=ry;unfold eqD;exact RcNeAt.tuple_bool b p hu0
  | int b=>obtain rfl:y = .int b:=hy;obtain ⟨t,rfl⟩:=ry;unfold eqD;exact RcNeAt.tuple_int b t p hu0
  | str b=>obtain rfl:y = .str b:=hy;obtain ⟨t,rfl⟩:=ry;unfold eqD;exact RcNeAt.tuple_str b t p hu0
  | lst es=>obtain ⟨b,ys,rfl,hq',_⟩:=hy;obtain rfl:v=Value.ref b:=ry;obtain ⟨its',_,p',_⟩:=I.list hq';unfold eqD;exact RcNeAt.tuple_list p p'.isList hu0
  | tup es=>
   obtain ⟨b,ys,rfl,hq',hl'⟩:=hy
   obtain rfl:v=Value.ref b:=ry
   obtain ⟨its',rv',p',_⟩:=I.tuple hq'
   have p':s.heap.IsTuple b its'.toArray:=p'
   have he:=gJ (A:=A.in1) (s:=s) hl rv hl' rv' (fun d e x y u v ⟨j,hj⟩ r1 r2 s1 s2=>(I.eq_sh 100 A.in1 d e x y u v (Nat.le_trans (kF hj) hdd) (by show A.units+1+100<cLine;omega) r1 r2 s1 s2).2)
   have rc:=RcNeAt.tuples p p' hu0 he
   have l1:=hl.length
   have l2:=rv.length
   have l3:=hl'.length
   have l4:=rv'.length
   rw [List.size_toArray,List.size_toArray,← l2,← l4,← l1,← l3,gX] at rc
   unfold eqD
   exact rc
 | lst ds=>
  have hdd:mC ds≤100:=by unfold dep at hd;omega
  obtain ⟨a,xs,rfl,hq,hl⟩:=hx
  obtain rfl:u=Value.ref a:=rx
  obtain ⟨its,rv,p,_⟩:=I.list hq
  have p:=p.isList
  cases e with
  | non=>obtain rfl:y = .non:=hy;obtain rfl:v=Value.none:=ry;unfold eqD;exact RcNeAt.list_none p hu0
  | bl b=>obtain rfl:y = .bl b:=hy;obtain rfl:v=Value.bool b:=ry;unfold eqD;exact RcNeAt.list_bool b p hu0
  | int b=>obtain rfl:y = .int b:=hy;obtain ⟨t,rfl⟩:=ry;unfold eqD;exact RcNeAt.list_int b t p hu0
  | str b=>obtain rfl:y = .str b:=hy;obtain ⟨t,rfl⟩:=ry;unfold eqD;exact RcNeAt.list_str b t p hu0
  | tup es=>obtain ⟨b,ys,rfl,hq',_⟩:=hy;obtain rfl:v=Value.ref b:=ry;obtain ⟨its',_,p',_⟩:=I.tuple hq';unfold eqD;exact RcNeAt.list_tuple p (show s.heap.IsTuple b its'.toArray from p') hu0
  | lst es=>
   obtain ⟨b,ys,rfl,hq',hl'⟩:=hy
   obtain rfl:v=Value.ref b:=ry
   obtain ⟨its',rv',p',_⟩:=I.list hq'
   have p':=p'.isList
   have l1:=hl.length
   have l2:=rv.length
   have l3:=hl'.length
   have l4:=rv'.length
   unfold eqD
   by_cases hz:ds.length=es.length
   ·have he:=gJ (A:=A.in1) (s:=s) hl rv hl' rv' (fun d e x y u v ⟨j,hj⟩ r1 r2 s1 s2=>(I.eq_sh 100 A.in1 d e x y u v (Nat.le_trans (kF hj) hdd) (by show A.units+1+100<cLine;omega) r1 r2 s1 s2).2)
    have rc:=RcNeAt.lists p p' (by rw [List.size_toArray,List.size_toArray];omega) hu0 he
    rw [List.size_toArray,← l2,← l1] at rc
    have q:=gX ds es
    rw [← hz,Nat.min_self,beq_self_eq_true,Bool.and_true] at q
    rw [← q]
    exact rc
   ·have q:eqL ds es=false:=by
     cases q:eqL ds es with
     | false=>rfl
     | true=>exact absurd (fI q) hz
    rw [q]
    exact RcNeAt.lists_lengths p p' (by rw [List.size_toArray,List.size_toArray];simp;omega) hu0
noncomputable def uK (K:PySem.W.Frag):R2:=fun x y H Q=>∃ d e,dep d≤100∧Sh K H d x∧Sh K H e y∧Q (.bl (!eqD d e)) H
theorem wM (hu:X.A.units+101<cLine):OpR X (compareOp .NotEq) (uK X.K):=by
 intro pins s σ H x y v u Q I rx ry ⟨d,e,hd,hx,hy,q⟩
 exact (I.ne_sh d e x y v u hd hu rx ry hx hy) X.prog X.w X.xe _ ⟨.bl _,H,I,rfl,q⟩
noncomputable def uO:Dt→String→Bool
 | .non,_=>false
 | .bl _,T=>T == "bool" || T == "int"
 | .int _,T=>T == "int"
 | .str _,T=>T == "str"
 | .tup _,T=>T == "tuple"
 | .lst _,T=>T == "list"
noncomputable def uN (K:PySem.W.Frag):List V→Hp→VK→Prop:=fun vs H Q=>∃ x d T,vs=[x, .ty T]∧(T="int"∨T="bool"∨T="tuple"∨T="list"∨T="str")∧Sh K H d x∧Q (.bl (uO d T)) H
theorem rR:CallR X (.builtin "isinstance") (uN X.K):=by
 intro pins s σ H xs us Q I r ⟨x,d,T,e,hT,hx,q⟩
 subst e
 obtain ⟨u,w',rfl,rx,rt⟩:=r.two
 obtain rfl:w'=Value.type T:=rt
 have fin:∀ (b:Bool) (t:Nat),uO d T=b→EP X pins σ Q (.bool b) { s with toks:=t }:=fun b t e=>⟨.bl b,H,I.tok t,rfl,by rw [← e];exact q⟩
 have fin0:∀ (b:Bool),uO d T=b→EP X pins σ Q (.bool b) s:=fun b e=>⟨.bl b,H,I,rfl,by rw [← e];exact q⟩
 cases d with
 | non=>
  obtain rfl:x = .non:=hx
  obtain rfl:u=Value.none:=rx
  rcases hT with rfl | rfl | rfl | rfl | rfl
  ·exact IsiPair.NoneType_int (fin _ _ rfl)
  ·exact IsiPair.NoneType_bool (fin _ _ rfl)
  ·exact IsiPair.NoneType_tuple (fin _ _ rfl)
  ·exact IsiPair.NoneType_list (fin _ _ rfl)
  ·exact IsiPair.NoneType_str (fin _ _ rfl)
 | bl b=>
  obtain rfl:x = .bl b:=hx
  obtain rfl:u=Value.bool b:=rx
  rcases hT with rfl | rfl | rfl | rfl | rfl
  ·exact IsiPair.bool_int (fin0 _ rfl)
  ·exact IsiPair.bool_bool (fin0 _ rfl)
  ·exact IsiPair.bool_tuple (fin _ _ rfl)
  ·exact IsiPair.bool_list (fin _ _ rfl)
  ·exact IsiPair.bool_str (fin _ _ rfl)
 | int b=>
  obtain rfl:x = .int b:=hx
  obtain ⟨t,rfl⟩:=rx
  rcases hT with rfl | rfl | rfl | rfl | rfl
  ·exact IsiPair.int_int (fin0 _ rfl)
  ·exact IsiPair.int_bool (fin _ _ rfl)
  ·exact IsiPair.int_tuple (fin _ _ rfl)
  ·exact IsiPair.int_list (fin _ _ rfl)
  ·exact IsiPair.int_str (fin _ _ rfl)
 | str b=>
  obtain rfl:x = .str b:=hx
  obtain ⟨t,rfl⟩:=rx
  rcases hT with rfl | rfl | rfl | rfl | rfl
  ·exact IsiPair.str_int (fin _ _ rfl)
  ·exact IsiPair.str_bool (fin _ _ rfl)
  ·exact IsiPair.str_tuple (fin _ _ rfl)
  ·exact IsiPair.str_list (fin _ _ rfl)
  ·exact IsiPair.str_str (fin0 _ rfl)
 | tup ds=>
  obtain ⟨a,ys,rfl,hq,_⟩:=hx
  obtain rfl:u=Value.ref a:=rx
  obtain ⟨its,_,⟨o,ho,hc,_⟩,_⟩:=I.tuple hq
  rcases hT with rfl | rfl | rfl | rfl | rfl
  ·exact IsiPair.tuple_int ho hc (fin _ _ rfl)
  ·exact IsiPair.tuple_bool ho hc (fin _ _ rfl)
  ·exact IsiPair.tuple_tuple ho hc (fin0 _ rfl)
  ·exact IsiPair.tuple_list ho hc (fin _ _ rfl)
  ·exact IsiPair.tuple_str ho hc (fin _ _ rfl)
 | lst ds=>
  obtain ⟨a,ys,rfl,hq,_⟩:=hx
  obtain rfl:u=Value.ref a:=rx
  obtain ⟨its,_,p,_⟩:=I.list hq
  obtain ⟨o,ho,hc,_⟩:=p.isList
  rcases hT with rfl | rfl | rfl | rfl | rfl
  ·exact IsiPair.list_int ho hc (fin _ _ rfl)
  ·exact IsiPair.list_bool ho hc (fin _ _ rfl)
  ·exact IsiPair.list_tuple ho hc (fin _ _ rfl)
  ·exact IsiPair.list_list ho hc (fin0 _ rfl)
  ·exact IsiPair.list_str ho hc (fin _ _ rfl)
theorem mS {prog:Program}{w:World}{A:Around}(hh:A.handled=none)(It ax:Addr)(hne:ax≠It)(items:Array Value) :
  Walks prog w A It [It,ax] [It] items.size (fun i v=>items[i]?=some v) (fun i h=>h.IsTupleIter It ax i∧h.IsTuple ax items) where
 sub:=fun b hb=>by simp at hb;simp [hb]
 frame:=fun _ _ _ st hk=>⟨st.1.at fun o e=>hk It (by simp) o e,let ⟨o,e,r⟩:=st.2;⟨o,hk ax (by simp) o e,r⟩⟩
 item:=fun i s Q E hi st hQ=>by
  refine wpAny_pyNext_tuple_item st.1 st.2 (x:=items[i]) (by simp [hi]) fun h' hit' hs'=>?_
  refine hQ _ h' s.toks (by simp [hi]) ⟨hit',?_⟩ fun b o hb e=>hs'.extBut b o (fun h=>hb (by simp [h])) e
  obtain ⟨o,e,r⟩:=st.2
  exact ⟨o,hs'.extBut _ _ hne e,r⟩
 done:=fun s Q E st hQ=>wpAny_pyNext_tuple_end hh st.1 st.2 (by simp) fun h' he'=>hQ h' s.toks fun b o hb e=>he' b o (fun h=>hb (by simp [h])) e
 self:=fun _ _ _ _ st hQ=>wpAny_pyIter_tupleiter st.1 hQ
noncomputable def Sq (K:PySem.W.Frag) (H:Hp) (a:Addr) (xs:List V):Prop:=SqL K H a xs∨SqT K H a xs
theorem gI {A:Around}{a:Addr}{xs:List V}{Q:Value→Shared→Prop}{E:Value→Shared→Prop}(hh:A.handled=none)(I:Inv X pins σ H s)(h:Sq X.K H a xs)
  (hq:∀ (its:List Value) (It:Addr) (fp wr:List Addr) (S:Nat→Heap→Prop) (s2:Shared),Vals xs its→xs.length≤sizeLine→Walks X.prog X.w A It fp wr its.length (fun i v=>its[i]?=some v) S→S 0 s2.heap→(∀ b∈fp,b<s2.heap.objs.size) →
   (∀ h' tk,(∀ b o,b∉wr→s2.heap.get? b=some o→h'.get? b=some o)→Inv X pins σ H { s2 with heap:=h',toks:=tk })→Q (.ref It) s2):wpAny (model X.prog X.w) A (pyIter (.ref a)) Q E s:=by
 rcases h with h | h
 ·obtain ⟨its,rv,p,hz⟩:=I.list h
  refine wpAny_pyIter_list p.isList ?_
  have ha:a<s.heap.objs.size:=by obtain ⟨o,e,_⟩:=p.isList;exact Heap.lt_size e
  refine hq its s.heap.objs.size [s.heap.objs.size,a] [s.heap.objs.size] (fun i h=>h.IsListIter s.heap.objs.size a i∧h.IsList a its.toArray) _ rv hz (by simpa using Walks.list (prog:=X.prog) (w:=X.w) hh s.heap.objs.size a (Nat.ne_of_lt ha) its.toArray) ⟨⟨_,Heap.get?_push_size _ rfl,rfl,rfl⟩,?_⟩ (fun b hb=>?_) fun h' tk hk=>?_
  ·obtain ⟨o,e,r⟩:=p.isList
   exact ⟨o,Heap.get?_push_of_some _ e,r⟩
  ·simp at hb
   show b<(s.heap.push _).objs.size
   rw [Heap.size_push]
   rcases hb with rfl | rfl
   ·exact Nat.lt_succ_self _
   ·exact Nat.lt_succ_of_lt ha
  ·exact I.kept fun b o e=>hk b o (by simpa using Nat.ne_of_lt (Heap.lt_size e)) (Heap.get?_push_of_some _ e)
 ·obtain ⟨its,rv,p,hz⟩:=I.tuple h
  have p:s.heap.IsTuple a its.toArray:=p
  refine wpAny_pyIter_tuple p ?_
  have ha:a<s.heap.objs.size:=by obtain ⟨o,e,_⟩:=p;exact Heap.lt_size e
  refine hq its s.heap.objs.size [s.heap.objs.size,a] [s.heap.objs.size] (fun i h=>h.IsTupleIter s.heap.objs.size a i∧h.IsTuple a its.toArray) _ rv hz (by simpa using mS (prog:=X.prog) (w:=X.w) hh s.heap.objs.size a (Nat.ne_of_lt ha) its.toArray) ⟨⟨_,Heap.get?_push_size _ rfl,rfl,rfl⟩,?_⟩ (fun b hb=>?_) fun h' tk hk=>?_
  ·obtain ⟨o,e,r⟩:=p
   exact ⟨o,Heap.get?_push_of_some _ e,r⟩
  ·simp at hb
   show b<(s.heap.push _).objs.size
   rw [Heap.size_push]
   rcases hb with rfl | rfl
   ·exact Nat.lt_succ_self _
   ·exact Nat.lt_succ_of_lt ha
  ·exact I.kept fun b o e=>hk b o (by simpa using Nat.ne_of_lt (Heap.lt_size e)) (Heap.get?_push_of_some _ e)
theorem Vals.getR:∀ {xs:List V} {us:List Value} {i:Nat} {u:Value},Vals xs us→us[i]?=some u→∃ x,xs[i]?=some x∧RelV x u
 | _,_,_,_, .nil,e=>by simp at e
 | _,_,0,_, .cons r _,e=>by simp at e;subst e;exact ⟨_,rfl,r⟩
 | _,_,i+1,u, .cons _ t,e=>by
  obtain ⟨x,h1,h2⟩:=Vals.getR (i:=i) (u:=u) t (by simpa using e)
  exact ⟨x,by simpa using h1,h2⟩
theorem rZ (hc:X.calm=true):CallR X (.builtin "all") (fun vs H Q=>∃ (a:Addr) (bs:List Bool),vs=[.ref a]∧Sq X.K H a (bs.map V.bl)∧Q (.bl (bs.all id)) H):=by
 intro pins s σ H xs us Q I r ⟨a,bs,e,hq,q⟩
 subst e
 obtain ⟨u,rfl,ru⟩:=r.one
 obtain rfl:u=Value.ref a:=ru
 refine call_all_walk (gI (I.ok.hd hc) I hq fun its It fp wr S s2 rv hz W st hf hI=>?_)
 refine ⟨It,fp,wr,its.length,_,S,fun j=>bs.getD j false,rfl,W,st,fun i v s' Q' E' hv hQ'=>?_,fun h' tk hk=>?_⟩
 ·obtain ⟨x,hx,rx⟩:=rv.getR hv
  rw [List.getElem?_map] at hx
  cases hb:bs[i]? with
  | none=>rw [hb] at hx;cases hx
  | some b=>
   rw [hb] at hx
   obtain rfl:V.bl b=x:=by simpa using hx
   obtain rfl:v=Value.bool b:=rx
   have:bs.getD i false=b:=by rw [List.getD_eq_getElem?_getD,hb];rfl
   have hQ':Q' (bs.getD i false) s':=hQ'
   rw [this] at hQ'
   exact wpAny_truthy_bool hQ'
 ·refine ⟨.bl (bs.all id),H,hI h' tk hk,?_,q⟩
  show Value.bool _=Value.bool _
  congr 1
  have hl:its.length=bs.length:=by rw [← rv.length,List.length_map]
  rw [hl]
  clear q hq rv hl hz
  induction bs with
  | nil=>rfl
  | cons b bs ih=>rw [List.length_cons,dR,List.all_cons];exact congrArg (fun z=>b && z) ih
theorem fJ {bt:Nat→Nat→Bool}:∀ k,argBest bt k≤k
 | 0=>Nat.le_refl _
 | k+1=>by
  unfold argBest
  split
  ·exact Nat.le_refl _
  ·exact Nat.le_succ_of_le (fJ k)
theorem eO {ns:List Int}:∀ (k:Nat),∀ j,j≤k→ns.getD (argBest (fun i j=>decide (ns.getD i 0<ns.getD j 0)) k) 0≤ns.getD j 0
 | 0,j,h=>by
  have:j=0:=by omega
  subst this
  exact Int.le_refl _
 | k+1,j,h=>by
  have ih:=eO (ns:=ns) k
  unfold argBest
  by_cases c:ns.getD (k+1) 0<ns.getD (argBest (fun i j=>decide (ns.getD i 0<ns.getD j 0)) k) 0
  ·rw [if_pos (decide_eq_true c)]
   by_cases e:j=k+1
   ·subst e;exact Int.le_refl _
   ·have:=ih j (by omega);omega
  ·rw [if_neg (by simpa using c)]
   by_cases e:j=k+1
   ·subst e;omega
   ·exact ih j (by omega)
theorem fT {ns:List Int}:∀ (k:Nat),∀ j,j≤k→ns.getD j 0≤ns.getD (argBest (fun i j=>decide (ns.getD j 0<ns.getD i 0)) k) 0
 | 0,j,h=>by
  have:j=0:=by omega
  subst this
  exact Int.le_refl _
 | k+1,j,h=>by
  have ih:=fT (ns:=ns) k
  unfold argBest
  by_cases c:ns.getD (argBest (fun i j=>decide (ns.getD j 0<ns.getD i 0)) k) 0<ns.getD (k+1) 0
  ·rw [if_pos (decide_eq_true c)]
   by_cases e:j=k+1
   ·subst e;exact Int.le_refl _
   ·have:=ih j (by omega);omega
  ·rw [if_neg (by simpa using c)]
   by_cases e:j=k+1
   ·subst e;omega
   ·exact ih j (by omega)
theorem sP (hc:X.calm=true):CallR X (.builtin "min") (fun vs H Q=>∃ (a:Addr) (ns:List Int),vs=[.ref a]∧Sq X.K H a (ns.map V.int)∧ns≠[]∧∀ m:Int,m∈ns→(∀ k∈ns,m≤k)→Q (.int m) H):=by
 intro pins s σ H xs us Q I r ⟨a,ns,e,hq,hne,q⟩
 subst e
 obtain ⟨u,rfl,ru⟩:=r.one
 obtain rfl:u=Value.ref a:=ru
 refine call_min_walk (gI (I.ok.hd hc) I hq fun its It fp wr S s2 rv hz W st hf hI=>?_)
 have hl:its.length=ns.length:=by rw [← rv.length,List.length_map]
 have hpos:0<ns.length:=List.length_pos_iff.mpr hne
 have item:∀ (i:Nat) (v:Value),its[i]?=some v→∃ t,v = .int (ns.getD i 0) t:=fun i v hv=>by
  obtain ⟨x,hx,rx⟩:=rv.getR hv
  rw [List.getElem?_map] at hx
  cases hb:ns[i]? with
  | none=>rw [hb] at hx;cases hx
  | some b=>
   rw [hb] at hx
   obtain rfl:V.int b=x:=by simpa using hx
   obtain ⟨t,rfl⟩:=rx
   exact ⟨t,by rw [List.getD_eq_getElem?_getD,hb];rfl⟩
 refine ⟨It,fp,wr,its.length,_,S,fun i j=>decide (ns.getD i 0<ns.getD j 0),rfl,W,st,hf,by omega,fun i j vi vj s' Q' E' hi hj hQ'=>?_,fun v h' tk hv hk=>?_⟩
 ·obtain ⟨t,rfl⟩:=item i vi hi
  obtain ⟨t',rfl⟩:=item j vj hj
  exact (lt_int hQ':wpAny (model X.prog X.w) X.A.in1 (compareOp .Lt _ _) Q' E' s')
 ·obtain ⟨t,rfl⟩:=item _ v hv
  have hb:=fJ (bt:=fun i j=>decide (ns.getD i 0<ns.getD j 0)) (its.length - 1)
  refine ⟨.int _,H,hI h' tk hk,⟨t,rfl⟩,q _ ?_ fun k hk=>?_⟩
  ·rw [List.getD_eq_getElem?_getD,List.getElem?_eq_getElem (by omega)]
   exact List.getElem_mem _
  ·obtain ⟨j,hj,rfl⟩:=List.mem_iff_getElem.mp hk
   have:=eO (ns:=ns) (its.length - 1) j (by omega)
   rw [List.getD_eq_getElem?_getD (l:=ns) (i:=j),List.getElem?_eq_getElem hj] at this
   exact this
theorem sK (hc:X.calm=true):CallR X (.builtin "max") (fun vs H Q=>∃ (a:Addr) (ns:List Int),vs=[.ref a]∧Sq X.K H a (ns.map V.int)∧ns≠[]∧∀ m:Int,m∈ns→(∀ k∈ns,k≤m)→Q (.int m) H):=by
 intro pins s σ H xs us Q I r ⟨a,ns,e,hq,hne,q⟩
 subst e
 obtain ⟨u,rfl,ru⟩:=r.one
 obtain rfl:u=Value.ref a:=ru
 refine call_max_walk (gI (I.ok.hd hc) I hq fun its It fp wr S s2 rv hz W st hf hI=>?_)
 have hl:its.length=ns.length:=by rw [← rv.length,List.length_map]
 have hpos:0<ns.length:=List.length_pos_iff.mpr hne
 have item:∀ (i:Nat) (v:Value),its[i]?=some v→∃ t,v = .int (ns.getD i 0) t:=fun i v hv=>by
  obtain ⟨x,hx,rx⟩:=rv.getR hv
  rw [List.getElem?_map] at hx
  cases hb:ns[i]? with
  | none=>rw [hb] at hx;cases hx
  | some b=>
   rw [hb] at hx
   obtain rfl:V.int b=x:=by simpa using hx
   obtain ⟨t,rfl⟩:=rx
   exact ⟨t,by rw [List.getD_eq_getElem?_getD,hb];rfl⟩
 refine ⟨It,fp,wr,its.length,_,S,fun i j=>decide (ns.getD j 0<ns.getD i 0),rfl,W,st,hf,by omega,fun i j vi vj s' Q' E' hi hj hQ'=>?_,fun v h' tk hv hk=>?_⟩
 ·obtain ⟨t,rfl⟩:=item i vi hi
  obtain ⟨t',rfl⟩:=item j vj hj
  exact (gt_int hQ':wpAny (model X.prog X.w) X.A.in1 (compareOp .Gt _ _) Q' E' s')
 ·obtain ⟨t,rfl⟩:=item _ v hv
  have hb:=fJ (bt:=fun i j=>decide (ns.getD j 0<ns.getD i 0)) (its.length - 1)
  refine ⟨.int _,H,hI h' tk hk,⟨t,rfl⟩,q _ ?_ fun k hk=>?_⟩
  ·rw [List.getD_eq_getElem?_getD,List.getElem?_eq_getElem (by omega)]
   exact List.getElem_mem _
  ·obtain ⟨j,hj,rfl⟩:=List.mem_iff_getElem.mp hk
   have:=fT (ns:=ns) (its.length - 1) j (by omega)
   rw [List.getD_eq_getElem?_getD (l:=ns) (i:=j),List.getElem?_eq_getElem hj] at this
   exact this
end
end L2
namespace L2
open PySem PySem.Spec PyProof.Rows
section
variable {X:Cx}
noncomputable def xG (K:PySem.W.Frag):R2:=fun x y H Q=>∃ a b xs ys,x = .ref a∧y = .ref b∧SqT K H a xs∧SqT K H b ys∧xs.length+ys.length≤sizeLine ∧
 ∀ p H',((p=a∧H'=H∧ys=[])∨(p=b∧H'=H∧xs=[])∨(H p=none∧H'=upd H p (.tup (xs++ys))))→SqT K H' p (xs++ys)→Same H H'→Q (.ref p) H'
theorem aP {H:Hp}{p:Addr}(h:H p=none)(o:HO):Same H (upd H p o):=fun b u q=>by rw [aJ (aI q h)];exact q
theorem tP:OpR X (binaryOp .Add) (xG X.K):=by
 intro pins s σ H x y v u Q I rx ry ⟨a,b,xs,ys,ex,ey,ha,hb,hz,q⟩
 subst ex ey
 obtain rfl:v=Value.ref a:=rx
 obtain rfl:u=Value.ref b:=ry
 by_cases hx:xs=[]
 ·obtain ⟨its,r1,p1,_⟩:=I.tuple ha
  obtain ⟨its2,r2,p2,_⟩:=I.tuple hb
  have he:its=[]:=r1.nil_iff.mpr hx
  obtain ⟨⟨cls,dd,data,sl⟩,ho,hc,n,hd⟩:=id p1
  obtain ⟨⟨cls2,dd2,data2,sl2⟩,ho2,hc2,n2,hd2⟩:=id p2
  simp only at hc hd hc2 hd2
  subst hc hd hc2 hd2
  refine concat_meets ⟨_,ho,rfl⟩ ⟨_,ho2,rfl⟩ noFill_tuple_add seq_tuple_add PySem.F.slot_tuple_add PySem.F.entry_tuple_add (PySem.F.args_tuple_add_2 _ _)
   (tuple_addW0 a b its.toArray its2.toArray n n2 dd dd2 sl sl2 (by simp [he])) ⟨ho,ho2,?_⟩
  exact ⟨.ref b,H,I,rfl,q b H (.inr (.inl ⟨rfl,rfl,hx⟩)) (by rw [hx];exact hb) (Same.refl H)⟩
 ·refine uZ (X:=X) pins s σ H (.ref a) (.ref b) (.ref a) (.ref b) Q I rfl rfl ⟨a,b,xs,ys,rfl,rfl,ha,hb,hx,hz,fun hy=>?_,fun hy p hp=>?_⟩
  ·exact q a H (.inl ⟨rfl,rfl,hy⟩) (by rw [hy,List.append_nil];exact ha) (Same.refl H)
  ·exact q p _ (.inr (.inr ⟨hp,rfl⟩)) (.of aE) (aP hp _)
noncomputable def dQ (K:PySem.W.Frag):R2:=fun x y H Q=>match x,y with
 | .int i, .int j=>Q (.int (i+j)) H
 | .str i, .str j=>i.length+j.length≤sizeLine∧Q (.str (i++j)) H
 | .ref a, .ref b=>zH (.ref a) (.ref b) H Q∨xG K (.ref a) (.ref b) H Q
 | _,_=>False
theorem uT:OpR X (binaryOp .Add) (dQ X.K):=by
 intro pins s σ H x y v u Q I rx ry h
 unfold dQ at h
 split at h
 ·exact wZ (X:=X) pins s σ H _ _ v u Q I rx ry ⟨_,_,rfl,rfl,h⟩
 ·exact nX (X:=X) pins s σ H _ _ v u Q I rx ry ⟨_,_,rfl,rfl,h.1,h.2⟩
 ·rcases h with h | h
  ·exact vO (X:=X) pins s σ H _ _ v u Q I rx ry h
  ·exact tP (X:=X) pins s σ H _ _ v u Q I rx ry h
 ·exact h.elim
noncomputable def gN:R2:=fun x y H Q=>match x,y with
 | .int i, .int j=>CMul i j∧Q (.int (i*j)) H
 | .ref a, .int k=>yT (.ref a) (.int k) H Q
 | _,_=>False
theorem cS:OpR X (binaryOp .Mult) gN:=by
 intro pins s σ H x y v u Q I rx ry h
 unfold gN at h
 split at h
 ·exact xD (X:=X) pins s σ H _ _ v u Q I rx ry ⟨_,_,rfl,rfl,h.1,h.2⟩
 ·exact wO (X:=X) pins s σ H _ _ v u Q I rx ry h
 ·exact h.elim
theorem yN:IxR X (fun x y H Q=>xO X.K x y H Q∨xS X.K x y H Q):=tY.or wH
theorem Vals.of_get:∀ {xs:List V} {us:List Value},xs.length=us.length→(∀ (i:Nat) x u,xs[i]?=some x→us[i]?=some u→RelV x u)→Vals xs us
 | [],[],_,_ => .nil
 | [],_ :: _,h,_=>by simp at h
 | _ :: _,[],h,_=>by simp at h
 | x :: xs,u :: us,h,hr => .cons (hr 0 x u rfl rfl) (Vals.of_get (by simpa using h) fun i y w h1 h2=>hr (i+1) y w (by simpa using h1) (by simpa using h2))
noncomputable def tO (lo hi:Int):List Int:=(List.range (hi - lo).toNat).map fun i:Nat=>lo+(i:Int)
theorem jU (hc:X.calm=true):CallR X (.type "list") (fun vs H Q=>∃ (a:Addr) (lo hi:Int),vs=[.ref a]∧H a=some (.rng lo hi)∧(-(2 ^ 62)≤lo∧lo<2 ^ 62∧-(2 ^ 62)≤hi∧hi<2 ^ 62∧hi - lo≤1000000) ∧
  ∀ p,H p=none→Q (.ref p) (upd H p (.lst ((tO lo hi).map V.int)))):=by
 intro pins s σ H xs us Q I r ⟨a,lo,hi,e,ha,⟨b1,b2,b3,b4,b5⟩,q⟩
 subst e
 obtain ⟨u,rfl,ru⟩:=r.one
 obtain rfl:u=Value.ref a:=ru
 obtain ⟨t,u,v,hr⟩:=I.hok a _ ha
 refine call_list_range (a:=lo) (b:=hi) (c:=1) (n:=(hi - lo).toNat) (I.ok.hd hc) hr (small_one b1 b2 b3 b4) (by rw [rangeSize_one];split <;> omega) (by omega) fun h' tk acc' c' hk hS hI=>?_
 refine ⟨.ref s.heap.objs.size,_,I.laid (a:=s.heap.objs.size) (o := .lst ((tO lo hi).map V.int)) hk (Nat.le_refl _) ⟨?_,acc'.toList,c',?_,by simpa using hS⟩,rfl,q _ (I.hok.fresh (Nat.le_refl _))⟩
 ·rw [List.length_map];unfold tO;rw [List.length_map,List.length_range]
  exact Nat.le_trans (show (hi - lo).toNat≤1000000 by omega) (by decide)
 ·refine Vals.of_get ?_ fun i x u hx hu=>?_
  ·have el:acc'.toList.length=(hi - lo).toNat:=by rw [← hI.1];simp
   rw [List.length_map,el];unfold tO;rw [List.length_map,List.length_range]
  ·obtain ⟨t,rfl⟩:=hI.2 i u (by simpa using hu)
   rw [List.getElem?_map] at hx
   unfold tO at hx
   rw [List.getElem?_map] at hx
   cases hi':(List.range (hi - lo).toNat)[i]? with
   | none=>rw [hi'] at hx;cases hx
   | some j=>
    rw [hi'] at hx
    have:j=i:=by
     obtain ⟨h1,h2⟩:=List.getElem?_eq_some_iff.mp hi'
     simpa using h2.symm
    subst this
    obtain rfl:V.int (lo+(j:Int))=x:=by simpa using hx
    exact ⟨t,by rw [Int.mul_one]⟩
theorem kB (hc:X.calm=true):CallR X (.type "list") (fun vs H Q=>(∃ p ys,vs=[.ref p]∧(SqL X.K H p ys∨SqT X.K H p ys)∧∀ l,H l=none→Q (.ref l) (upd H l (.lst ys))) ∨
  ∃ (a:Addr) (lo hi:Int),vs=[.ref a]∧H a=some (.rng lo hi)∧(-(2 ^ 62)≤lo∧lo<2 ^ 62∧-(2 ^ 62)≤hi∧hi<2 ^ 62∧hi - lo≤1000000)∧∀ p,H p=none→Q (.ref p) (upd H p (.lst ((tO lo hi).map V.int)))):=kO.or (jU hc)
noncomputable def rC (K:PySem.W.Frag) (tl:TE):TI:=fun σ H R=>tl σ H fun x H1=>∃ a,x = .ref a∧(((∃ xs,SqL K H1 a xs)∧R (Itl K a) H1)∨((∃ xs,SqT K H1 a xs)∧R (Itt K a) H1))
theorem xH {tg l:Expr}{tl:TE}(hl:PE X l tl):PI X tg l (rC X.K tl):=by
 intro pins s σ H R I h
 refine thn (hl pins s σ H _ I h) fun v s1 ⟨x,H1,I1,r1,q1⟩=>?_
 obtain ⟨a,e,q⟩:=q1
 subst e
 cases r1
 rcases q with ⟨⟨xs,hq⟩,q⟩ | ⟨⟨xs,hq⟩,q⟩
 ·obtain ⟨its,rv,p,hz⟩:=I1.list hq
  refine wpAny_pyIter_list p.isList ?_
  refine ⟨s1.heap.objs.size,[s1.heap.objs.size],_,_,H1,rfl,I1.kept (t':=s1.toks) fun b o e=>Heap.get?_push_of_some _ e,pA a _,⟨_,Heap.get?_push_size _ rfl,rfl,rfl⟩,fun b hb=>?_,q⟩
  have e:b=s1.heap.objs.size:=by simpa using hb
  subst e
  exact I1.fpOk (Nat.le_refl _) (I1.hok.fresh (Nat.le_refl _))
 ·obtain ⟨its,rv,p,hz⟩:=I1.tuple hq
  refine wpAny_pyIter_tuple (show s1.heap.IsTuple a its.toArray from p) ?_
  refine ⟨s1.heap.objs.size,[s1.heap.objs.size],_,_,H1,rfl,I1.kept (t':=s1.toks) fun b o e=>Heap.get?_push_of_some _ e,nT a _,⟨_,Heap.get?_push_size _ rfl,rfl,rfl⟩,fun b hb=>?_,q⟩
  have e:b=s1.heap.objs.size:=by simpa using hb
  subst e
  exact I1.fpOk (Nat.le_refl _) (I1.hok.fresh (Nat.le_refl _))
end
structure Def (P:Program)(w:World)(K:PySem.W.Frag)(mg:Str→Option Value)(base:Heap)(x:Str)(k:Nat)(ps:List Str)(sp:Sp):Prop where
 ex:∃ (f:Addr) (fd:FuncData),FnOk P w K mg base CX0 k f fd ps sp∧mg x=some (.ref f)∧PySem.W.keepIn K (.ref f)=true∧Binds K fd ps []
theorem Def.mono {P:Program}{w:World}{K:PySem.W.Frag}{mg:Str→Option Value}{base:Heap}{x:Str}{j k:Nat}{ps:List Str}{sp:Sp}(D:Def P w K mg base x j ps sp)(h:j≤k):Def P w K mg base x k ps sp:=by
 obtain ⟨f,fd,F,r⟩:=D.ex
 exact ⟨f,fd,F.mono h,r⟩
theorem bQ {X:Cx}{x:Str}{k:Nat}{ps:List Str}{sp:Sp}{p pos:Pos}{e:Expr}{es:List Expr}{t:TA}(D:Def X.prog X.w X.K X.mg X.base x k ps sp)(hr:Room k X.A)(hg:Gl X x)(ha:PA X (e :: es) t)
  (hdb:(x == ("__debug__" : Str))=false:=by decide) (he:starEach (e :: es) X.env=(false,eval e X.env) :: starEach es X.env:=by rfl) (hpl:(backTo pos (starEach es X.env)).any (·.1)=false:=by rfl) :
  PE X (.Call (.Name x p) (e :: es) [] pos) (cC sp [] E0 t):=by
 obtain ⟨f,fd,F,hm,hk,hb⟩:=D.ex
 exact uJ F hr hg hm hk hb .nil yD ha hdb he hpl
end L2
namespace L2
open PySem PySem.Spec PyProof.Rows
noncomputable def SameX (acc:Addr) (H H':Hp):Prop:=∀ b o,b≠acc→H b=some o→H' b=some o
theorem SameX.refl (acc:Addr)(H:Hp):SameX acc H H:=fun _ _ _ h=>h
theorem SameX.trans {acc:Addr}{H H1 H2:Hp}(a:SameX acc H H1)(b:SameX acc H1 H2):SameX acc H H2:=fun c o n h=>b c o n (a c o n h)
theorem Same.x {acc:Addr}{H H':Hp}(e:Same H H'):SameX acc H H':=fun b o _ h=>e b o h
theorem SameX.put {acc:Addr}{H:Hp}(o:HO):SameX acc H (upd H acc o):=fun b u n h=>by rw [aJ n];exact h
noncomputable def Agree (vars:List Nat) (σ σ':St):Prop:=∀ k,k∉vars→σ'[k]?=σ[k]?
theorem Agree.refl (vars:List Nat)(σ:St):Agree vars σ σ:=fun _ _=>rfl
theorem Agree.trans {vars:List Nat}{σ σ1 σ2:St}(a:Agree vars σ σ1)(b:Agree vars σ1 σ2):Agree vars σ σ2:=fun k h=>(b k h).trans (a k h)
theorem Agree.set {vars:List Nat}{σ:St}{j:Nat}(h:j∈vars)(v:Option V):Agree vars σ (σ.set j v):=fun k hk=>List.getElem?_set_ne (fun e:j=k=>hk (by rw [← e];exact h))
theorem kX {σ:St}{j:Nat}{v:Option V}(h:j<σ.length):(σ.set j v)[j]?=some v:=List.getElem?_set_self h
noncomputable def Emits (vars:List Nat) (tb:TS) (acc:Addr) (σ:St) (H:Hp) (L:List V):Prop:=
 ∀ (D:kA) (pre:List V),H acc=some (.lst pre)→pre.length+L.length≤1000000→(∀ σ' H',σ'.length=σ.length→Agree vars σ σ'→SameX acc H H'→H' acc=some (.lst (pre++L))→D.nx σ' H')→tb D σ H
theorem eY {vars:List Nat}{te:TE}{acc:Addr}{σ:St}{H:Hp}{x:V}(h:∀ Q:VK,(∀ H',Same H H'→Q x H')→te σ H Q):Emits vars (fG te acc) acc σ H [x]:=by
 intro D pre ha hz hd
 refine h _ fun H' e=>⟨pre,e _ _ ha,?_,hd σ _ rfl (Agree.refl _ _) (e.x.trans (SameX.put _)) aE⟩
 exact Nat.lt_of_le_of_lt (show pre.length≤1000000 by simp at hz;omega) (by decide)
theorem aQ {α:Type}(f:Nat→List α)(i:Nat):(List.range (i+1)).flatMap f=(List.range i).flatMap f++f i:=by
 rw [List.range_succ,List.flatMap_append]
 simp
theorem cZ {α:Type}(f:Nat→List α){i n:Nat}(h:i≤n):((List.range i).flatMap f).length≤((List.range n).flatMap f).length:=by
 induction h with
 | refl=>exact Nat.le_refl _
 | step _ ih=>rw [aQ,List.length_append];omega
theorem jL {K:PySem.W.Frag}{vars:List Nat}{tb:TS}{acc a:Addr}{σ:St}{H:Hp}{xs:List V}{j:Nat}{L:Nat→List V}(hj:j∈vars)(hjl:j<σ.length)(hs:∀ H',SameX acc H H'→SqT K H' a xs)
  (h:∀ i x σ' H',xs[i]?=some x→σ'.length=σ.length→Agree vars σ σ'→σ'[j]?=some (some x)→SameX acc H H'→(∃ pre,H' acc=some (.lst pre))→Emits vars tb acc σ' H' (L i)) :
  Emits vars (iK (Itt K a) (aO j) tb) acc σ H ((List.range xs.length).flatMap L):=by
 intro D pre ha hz hd
 refine uG (K:=K) (a:=a) (xs:=xs) (g:=aO j) (D:=D) (fun i σ' H'=>i≤xs.length∧σ'.length=σ.length∧Agree vars σ σ'∧SameX acc H H'∧H' acc=some (.lst (pre++(List.range i).flatMap L))) ⟨Nat.zero_le _,rfl,Agree.refl _ _,SameX.refl _ _,by simpa using ha⟩ (fun i σ1 H1 _ ⟨_,_,_,sx1,_⟩=>hs H1 sx1) (fun i x σ1 H1 hx ⟨_,hl1,ag1,sx1,h1⟩=>?_) fun σ1 H1 ⟨_,hl1,ag1,sx1,h1⟩=>hd σ1 H1 hl1 ag1 sx1 h1
 have hi:i<xs.length:=(List.getElem?_eq_some_iff.mp hx).1
 have hle:=cZ L (show i+1≤xs.length from hi)
 rw [aQ,List.length_append] at hle
 have fin:∀ σ' H',σ'.length=σ1.length→Agree vars (σ1.set j (some x)) σ'→SameX acc H1 H'→H' acc=some (.lst ((pre++(List.range i).flatMap L)++L i)) →
   (i+1≤xs.length∧σ'.length=σ.length∧Agree vars σ σ'∧SameX acc H H'∧H' acc=some (.lst (pre++(List.range (i+1)).flatMap L))):=fun σ' H' hl ag sx h2=>
  ⟨hi,hl.trans hl1,(ag1.trans (Agree.set hj _)).trans ag,sx1.trans sx,by rw [h2,aQ,List.append_assoc]⟩
 refine h i x (σ1.set j (some x)) H1 hx (by rw [List.length_set];exact hl1) (ag1.trans (Agree.set hj _)) (kX (by omega)) sx1 ⟨_,h1⟩ _ _ h1 (by rw [List.length_append];omega) fun σ' H' hl ag sx h2=>fin σ' H' (hl.trans (List.length_set ..)) ag sx h2
end L2
namespace L2
open PySem PySem.Spec PyProof.Rows
theorem cH:bootBuiltins "len" = some (.builtin "len"):=by decide +kernel
theorem tI:bootBuiltins "all" = some (.builtin "all"):=by decide +kernel
theorem wG:bootBuiltins "min" = some (.builtin "min"):=by decide +kernel
theorem vN:bootBuiltins "max" = some (.builtin "max"):=by decide +kernel
theorem lU:bootBuiltins "isinstance" = some (.builtin "isinstance"):=by decide +kernel
theorem cD:bootBuiltins "tuple" = some (.type "tuple"):=by decide +kernel
theorem tZ:bootBuiltins "list" = some (.type "list"):=by decide +kernel
theorem mW:bootBuiltins "int" = some (.type "int"):=by decide +kernel
theorem uU:bootBuiltins "bool" = some (.type "bool"):=by decide +kernel
structure Blt (mg:Str→Option Value):Prop where
 len:mg "len" = none
 all:mg "all" = none
 min:mg "min" = none
 max:mg "max" = none
 sum:mg "sum" = none
 isi:mg "isinstance" = none
 sorted:mg "sorted" = none
 tuple:mg "tuple" = none
 list:mg "list" = none
 range:mg "range" = none
 int:mg "int" = none
 bool:mg "bool" = none
end L2
namespace L2
open PySem
theorem yH {A:Around}{k:Nat}(hr:Room k A):A.units+100<cLine:=by have:=hr.un;omega
theorem yL {A:Around}{k:Nat}(hr:Room k A):A.units+101<cLine:=by have:=hr.un;omega
end L2
namespace L2
open PySem PySem.Spec PyProof.Rows
section
variable {X:Cx}{K:PySem.W.Frag}
theorem bP (hK:X.K=K):IxR X (fun x y H Q=>xO K x y H Q∨xS K x y H Q):=by subst hK;exact yN
theorem bS (hK:X.K=K):OpR X (binaryOp .Add) (dQ K):=by subst hK;exact uT
theorem hX {k:Nat}(hK:X.K=K)(hr:Room k X.A):OpR X (compareOp .Eq) (qY K):=by subst hK;exact wJ (yH hr)
theorem kJ {k:Nat}(hK:X.K=K)(hr:Room k X.A):OpR X (compareOp .NotEq) (uK K):=by subst hK;exact wM (yL hr)
theorem dH (hK:X.K=K):CallR X (.builtin "isinstance") (uN K):=by subst hK;exact rR
noncomputable def mF (K:PySem.W.Frag):List V→Hp→VK→Prop:=fun xs H Q=>∃ p ys,xs=[.ref p]∧(SqL K H p ys∨SqT K H p ys)∧Q (.int ys.length) H
theorem aY (hK:X.K=K):CallR X (.builtin "len") (mF K):=by subst hK;exact kN
noncomputable def yE (K:PySem.W.Frag):List V→Hp→VK→Prop:=fun vs H Q=>∃ (a:Addr) (bs:List Bool),vs=[.ref a]∧Sq K H a (bs.map V.bl)∧Q (.bl (bs.all id)) H
theorem lX (hK:X.K=K)(hc:X.calm=true):CallR X (.builtin "all") (yE K):=by subst hK;exact rZ hc
noncomputable def zA (K:PySem.W.Frag):List V→Hp→VK→Prop:=fun vs H Q=>∃ (a:Addr) (ns:List Int),vs=[.ref a]∧Sq K H a (ns.map V.int)∧ns≠[]∧∀ m:Int,m∈ns→(∀ k∈ns,m≤k)→Q (.int m) H
theorem oU (hK:X.K=K)(hc:X.calm=true):CallR X (.builtin "min") (zA K):=by subst hK;exact sP hc
noncomputable def yR (K:PySem.W.Frag):List V→Hp→VK→Prop:=fun vs H Q=>∃ (a:Addr) (ns:List Int),vs=[.ref a]∧Sq K H a (ns.map V.int)∧ns≠[]∧∀ m:Int,m∈ns→(∀ k∈ns,k≤m)→Q (.int m) H
theorem pW (hK:X.K=K)(hc:X.calm=true):CallR X (.builtin "max") (yR K):=by subst hK;exact sK hc
noncomputable def eW (K:PySem.W.Frag):List V→Hp→VK→Prop:=fun xs H Q=>∃ p ys,xs=[.ref p]∧((SqL K H p ys∧∀ l,H l=none→Q (.ref l) (upd H l (.tup ys)))∨(SqT K H p ys∧Q (.ref p) H))
theorem bO (hK:X.K=K):CallR X (.type "tuple") (eW K):=by subst hK;exact jN
noncomputable def xC (K:PySem.W.Frag):List V→Hp→VK→Prop:=fun vs H Q=>(∃ p ys,vs=[.ref p]∧(SqL K H p ys∨SqT K H p ys)∧∀ l,H l=none→Q (.ref l) (upd H l (.lst ys))) ∨
  ∃ (a:Addr) (lo hi:Int),vs=[.ref a]∧H a=some (.rng lo hi)∧(-(2 ^ 62)≤lo∧lo<2 ^ 62∧-(2 ^ 62)≤hi∧hi<2 ^ 62∧hi - lo≤1000000)∧∀ p,H p=none→Q (.ref p) (upd H p (.lst ((tO lo hi).map V.int)))
theorem oI (hK:X.K=K)(hc:X.calm=true):CallR X (.type "list") (xC K):=by subst hK;exact kB hc
theorem fK {tg l:Expr}{tl:TE}(hK:X.K=K)(hl:PE X l tl):PI X tg l (rC K tl):=by subst hK;exact xH hl
theorem pN {es:List Expr}{k:Nat}{t:TGs}{n:Nat}{pos:Pos}(hK:X.K=K)(hc:X.calm=true)(h:PGs X es t)(hn:(assignEach es X.env).length=n:=by rfl)(hst:(assignEach es X.env).findIdx? (·.1)=none:=by rfl):PG X (.Tuple es k pos) (vX K n t):=by
 subst hK;exact vR hc h hn hst
end
end L2
namespace L2
open PySem PySem.Spec PyProof.Rows
noncomputable abbrev yLt:R2:=rI0 fun i j => .bl (decide (i<j))
noncomputable abbrev yLe:R2:=rI0 fun i j => .bl (decide (i≤j))
noncomputable abbrev yGt:R2:=rI0 fun i j => .bl (decide (j<i))
noncomputable abbrev yGe:R2:=rI0 fun i j => .bl (decide (j≤i))
noncomputable abbrev zT:R2:=rI0 fun i j => .int (i - j)
noncomputable abbrev xX:R2:=rI zB fun i j => .int (i / j)
noncomputable abbrev oK:R2:=rI (fun _ j=>0<j) fun i j => .int (i % j)
noncomputable abbrev xJ:R2:=rI yS fun i j => .int (i ^ j.toNat)
noncomputable abbrev yW:V→Hp→VK→Prop:=rU fun i => .int (-i)
noncomputable abbrev fY (K:PySem.W.Frag):R2:=fun x y H Q=>xO K x y H Q∨xS K x y H Q
end L2
namespace L2
open PySem
noncomputable def iI (T:List (List Int)):Dt := .tup (T.map fun r => .tup (r.map .int))
structure Quad (T:List (List Int))(n:Nat):Prop where
 len:T.length=n
 row:∀ r∈T,r.length=n
noncomputable def at2 (T:List (List Int)) (i j:Nat):Int:=(T.getD i []).getD j 0
section
variable {K:PySem.W.Frag}{H:Hp}{T:List (List Int)}{n:Nat}
theorem ShL.rows:∀ {T:List (List Int)} {rs:List V},ShL K H (T.map fun r=>Dt.tup (r.map Dt.int)) rs→rs.length=T.length∧∀ (i:Nat) (row:List Int),T[i]?=some row→∃ b,rs[i]?=some (.ref b)∧SqT K H b (row.map V.int)
 | [],rs,h=>by
  have h:rs=[]:=h
  subst h
  exact ⟨rfl,fun i row e=>by simp at e⟩
 | r :: T,rs,⟨x,rr,h1,⟨b,xs,h2,h3,h4⟩,h5⟩=>by
  obtain ⟨e,g⟩:=ShL.rows h5
  subst h1
  refine ⟨by rw [List.length_cons,List.length_cons,e],fun i row er=>?_⟩
  cases i with
  | zero=>
   have:r=row:=by simpa using er
   subst this
   exact ⟨b,by rw [h2];rfl,by rw [← ShL.of_ints h4];exact h3⟩
  | succ i=>exact g i row (by simpa using er)
theorem Sh.tab {v:V}(h:Sh K H (iI T) v):∃ a rs,v = .ref a∧SqT K H a rs∧rs.length=T.length∧∀ (i:Nat) (row:List Int),T[i]?=some row→∃ b,rs[i]?=some (.ref b)∧SqT K H b (row.map V.int):=by
 obtain ⟨a,rs,e,hq,hl⟩:=h
 obtain ⟨e2,g⟩:=ShL.rows hl
 exact ⟨a,rs,e,hq,e2,g⟩
theorem ShL.of_rows:∀ {T:List (List Int)} {rs:List V},rs.length=T.length→(∀ (i:Nat) (row:List Int),T[i]?=some row→∃ b,rs[i]?=some (.ref b)∧SqT K H b (row.map V.int))→ShL K H (T.map fun r=>Dt.tup (r.map Dt.int)) rs
 | [],rs,h,_=>List.length_eq_zero_iff.mp h
 | r :: T,[],h,_=>by simp at h
 | r :: T,x :: rs,h,g=>by
  obtain ⟨b,e,hq⟩:=g 0 r rfl
  have e:x = .ref b:=by simpa using e
  exact ⟨x,rs,rfl,⟨b,_,e,hq,ShL.ints r⟩,ShL.of_rows (by simpa using h) fun i row er=>by
   obtain ⟨c,e2,q2⟩:=g (i+1) row (by simpa using er)
   exact ⟨c,by simpa using e2,q2⟩⟩
theorem Quad.get (q:Quad T n){i:Nat}(h:i<n):∃ row,T[i]?=some row∧row.length=n∧T.getD i []=row:=by
 have hi:i<T.length:=by rw [q.len];exact h
 refine ⟨T[i],List.getElem?_eq_getElem hi,q.row _ (List.getElem_mem hi),?_⟩
 rw [List.getD_eq_getElem?_getD,List.getElem?_eq_getElem hi];rfl
theorem mP {xs:List Int}{j:Nat}(h:j<xs.length):xs[j]?=some (xs.getD j 0):=by
 rw [List.getD_eq_getElem?_getD,List.getElem?_eq_getElem h];rfl
theorem ixT {p:Addr}{xs:List V}{j:Nat}{v:V}{Q:VK}(h:SqT K H p xs)(hj:xs[j]?=some v)(q:Q v H):fY K (.ref p) (.int (j:Int)) H Q := .inr ⟨p,xs,j,v,rfl,rfl,h,pU hj,q⟩
theorem ixL {p:Addr}{xs:List V}{j:Nat}{v:V}{Q:VK}(h:SqL K H p xs)(hj:xs[j]?=some v)(q:Q v H):fY K (.ref p) (.int (j:Int)) H Q := .inl ⟨p,xs,j,v,rfl,rfl,h,pU hj,q⟩
end
theorem bR {acc:Addr}{H H2:Hp}{o:HO}(hacc:H acc=none)(sx:SameX acc (upd H acc o) H2):Same H H2:=fun b u e=>sx b u (aI e hacc) (by rw [aJ (aI e hacc)];exact e)
theorem Emits.cast {vars:List Nat}{tb:TS}{acc:Addr}{σ:St}{H:Hp}{L L':List V}(h:Emits vars tb acc σ H L)(e:L=L'):Emits vars tb acc σ H L':=e ▸ h
theorem cT (vars:List Nat)(L:List V){g:TG}{J:It}{tb:TS}{acc:Addr}{σ:St}{H:Hp}{D:kA}(ha:H acc=none)(hz:L.length≤1000000)(h:Emits vars (iK J g tb) acc σ (upd H acc (.lst [])) L)
  (q:∀ σ' H',Same H H'→H' acc=some (.lst L)→D.nx σ' H'):iK J g tb D σ (upd H acc (.lst [])):=
 h _ [] aE (by simpa using hz) fun σ' H' _ _ sx h2=>q σ' H' (bR ha sx) (by simpa using h2)
end L2
namespace L2
open PySem
section
variable {vars:List Nat}{tb:TS}{acc a:Addr}{σ:St}{H:Hp}{j:Nat}{D:kA}{K:PySem.W.Frag}
theorem sN {xs:List V}(R:Nat→List V→Hp→Prop)(hj:j∈vars)(hjl:j<σ.length)(h0:R 0 [] (upd H acc (.lst [])))(ha:H acc=none)(hs:∀ i L H',Same H H'→R i L H'→SqL K H' a xs)
  (h:∀ i x σ' H' L (D:kA),xs[i]?=some x→σ'.length=σ.length→Agree vars σ σ'→σ'[j]?=some (some x)→Same H H'→H' acc=some (.lst L)→R i L H' →
   (∀ σ'' H'' L',σ''.length=σ.length→Agree vars σ σ''→Same H H''→H'' acc=some (.lst L')→R (i+1) L' H''→D.nx σ'' H'')→tb D σ' H')
  (q:∀ σ' H' L,Same H H'→H' acc=some (.lst L)→R xs.length L H'→D.nx σ' H'):iK (Itl K a) (aO j) tb D σ (upd H acc (.lst [])):=by
 refine sB (K:=K) (a:=a) (xs:=xs) (g:=aO j) (D:=D) (fun i σ' H'=>i≤xs.length∧σ'.length=σ.length∧Agree vars σ σ'∧Same H H'∧∃ L,H' acc=some (.lst L)∧R i L H') ⟨Nat.zero_le _,rfl,Agree.refl _ _,aP ha _,[],aE,h0⟩ (fun i σ1 H1 _ ⟨_,_,_,sm,L,_,r1⟩=>hs i L H1 sm r1) (fun i x σ1 H1 hx ⟨_,hl1,ag1,sx1,L,h1,r1⟩=>?_) fun σ1 H1 ⟨_,_,_,sm,L,h1,r1⟩=>q σ1 H1 L sm h1 r1
 have hi:i<xs.length:=(List.getElem?_eq_some_iff.mp hx).1
 exact h i x (σ1.set j (some x)) H1 L _ hx (by rw [List.length_set];exact hl1) (ag1.trans (Agree.set hj _)) (kX (by omega)) sx1 h1 r1 fun σ2 H2 L' hl2 ag2 sm2 h2 r2=>⟨hi,hl2,ag2,sm2,L',h2,r2⟩
end
structure Mat (H:Hp)(F:Addr)(ls:List Addr)(M:List (List Int)):Prop where
 top:H F=some (.lst (ls.map V.ref))
 len:ls.length=M.length
 row:∀ (i:Nat) (l:Addr) (r:List Int),ls[i]?=some l→M[i]?=some r→H l=some (.lst (r.map V.int))
 nd:ls.Nodup
 out:F∉ls
theorem Mat.same {H H':Hp}{F:Addr}{ls:List Addr}{M:List (List Int)}(m:Mat H F ls M)(e:Same H H'):Mat H' F ls M:=⟨e _ _ m.top,m.len,fun i l r a b=>e _ _ (m.row i l r a b),m.nd,m.out⟩
theorem Mat.at {K:PySem.W.Frag}{H:Hp}{F:Addr}{ls:List Addr}{M:List (List Int)}{n i:Nat}(m:Mat H F ls M)(q:Quad M n)(hi:i<n):∃ l,ls[i]?=some l∧(ls.map V.ref)[i]?=some (.ref l)∧H l=some (.lst ((M.getD i []).map V.int)):=by
 obtain ⟨row,e1,e2,e3⟩:=q.get hi
 have hl:i<ls.length:=by rw [m.len,q.len];exact hi
 refine ⟨ls[i],List.getElem?_eq_getElem hl,by rw [List.getElem?_map,List.getElem?_eq_getElem hl];rfl,?_⟩
 rw [e3]
 exact m.row i _ row (List.getElem?_eq_getElem hl) e1
end L2
namespace L2
open PySem
theorem oS {K:PySem.W.Frag}{σ:St}{H:Hp}{t n:Nat}{F:Addr}{ls:List Addr}{M:List (List Int)}{Q:VK}(ht:σ[t]?=some (some (.ref F)))(m:Mat H F ls M)(q:Quad M n)(hn:n≤100)(h:∀ p H',Same H H'→Sh K H' (iI M) (.ref p)→Q (.ref p) H') :
  tCB (eW K) (aD (gC [none] (rC K (aK t)) (aO 0) [] fun acc=>fG (tCB (eW K) (aD (aK 0) aS)) acc) aS) σ H Q:=by
 refine ⟨_,ht,F,rfl, .inl ⟨⟨_, .of m.top⟩,fun acc hacc=>?_⟩⟩
 have hlen:(ls.map V.ref).length=n:=by rw [List.length_map,m.len,q.len]
 refine sN (vars:=[0]) (K:=K) (a:=F) (xs:=ls.map V.ref) (fun i L H'=>L.length=i∧∀ (j:Nat) (row:List Int),j<i→M[j]?=some row→∃ b,L[j]?=some (.ref b)∧H' b=some (.tup (row.map V.int))) (by decide) (by show 0<1;decide) ⟨rfl,fun j row hj=>absurd hj (Nat.not_lt_zero _)⟩ hacc (fun i L H' sm _ => .of (sm _ _ m.top)) (fun i x σ1 H1 L D hx l1 ag1 s1 sm1 ha1 ⟨r1,r2⟩ hD=>?_) fun σ1 H1 L sm1 ha1 ⟨r1,r2⟩=>?_
 ·have hi:i<n:=by rw [← hlen];exact (List.getElem?_eq_some_iff.mp hx).1
  have hil:i<ls.length:=by rw [m.len,q.len];exact hi
  obtain ⟨row,e1,e2,e3⟩:=q.get hi
  have ex:x = .ref ls[i]:=by
   rw [List.getElem?_map,List.getElem?_eq_getElem hil] at hx
   simpa using hx.symm
  subst ex
  have hrow:=m.row i _ row (List.getElem?_eq_getElem hil) e1
  refine ⟨_,s1,ls[i],row.map V.int,rfl, .inl ⟨.of (sm1 _ _ hrow),fun p hp=>?_⟩⟩
  have hpa:p≠acc:=fun e=>by rw [e,ha1] at hp;cases hp
  refine ⟨L,by rw [aJ (Ne.symm hpa)];exact ha1,Nat.lt_of_le_of_lt (show L.length≤100 by omega) (by decide),?_⟩
  refine hD σ1 _ (L++[.ref p]) l1 ag1 (fun b o e=>?_) aE ⟨by rw [List.length_append,r1];rfl,fun j row' hj e=>?_⟩
  ·have hb:b≠acc:=aI e hacc
   rw [aJ hb,aJ (aI (sm1 _ _ e) hp)]
   exact sm1 _ _ e
  ·by_cases hji:j<i
   ·obtain ⟨b,g1,g2⟩:=r2 j row' hji e
    refine ⟨b,by rw [List.getElem?_append_left (by omega)];exact g1,?_⟩
    have hb:b≠acc:=ne_of g2 ha1 (fun z=>nomatch z)
    rw [aJ hb,aJ (aI g2 hp)]
    exact g2
   ·have:j=i:=by omega
    subst this
    rw [e1] at e
    cases e
    refine ⟨p,by rw [List.getElem?_append_right (by omega),r1];simp,?_⟩
    rw [aJ hpa]
    exact aE
 ·refine ⟨acc,L,rfl, .inl ⟨.of ha1,fun p hp=>?_⟩⟩
  have sm2:Same H (upd H1 p (.tup L)):=sm1.trans (aP hp _)
  refine h p _ sm2 ⟨p,L,rfl, .of aE,ShL.of_rows (by rw [r1,hlen,q.len]) fun i row e=>?_⟩
  have hi:i<n:=by rw [← q.len];exact (List.getElem?_eq_some_iff.mp e).1
  obtain ⟨b,g1,g2⟩:=r2 i row (by omega) e
  exact ⟨b,g1, .of (by rw [aJ (aI g2 hp)];exact g2)⟩
end L2
namespace L2
open PySem
section
variable {K:PySem.W.Frag}{H:Hp}
end
theorem sS (ns:List Int)(lo hi:Option Int):∃ ms:List Int,oW (ns.map V.int) lo hi=ms.map V.int∧ms.length≤ns.length:=by
 refine ⟨(ns.drop (HT.sIx ns.length 0 lo)).take (HT.sIx ns.length ns.length hi - HT.sIx ns.length 0 lo),?_,?_⟩
 ·unfold oW
  rw [List.length_map,List.map_take,List.map_drop]
 ·rw [List.length_take,List.length_drop];omega
end L2
namespace L2
open PySem
end L2
namespace L2
open PySem PySem.Spec PyProof.Rows
section
variable {X:Cx}
theorem fH {prog:Program}{w:World}{A:Around}{E:Value→Shared→Prop}{s:Shared}{t sl:Addr}{items:Array Value}{vl vu:Value}{lo hi:Option Int}{Q:Value→Shared→Prop}(ht:IsTup s.heap t items)(hs:s.heap.IsSliceOf sl vl vu .none)(pl:IsPart vl lo)(pu:IsPart vu hi)
  (hw:HT.sIx items.size 0 lo=0∧HT.sIx items.size items.size hi=items.size) (h:Q (.ref t) s):wpAny (model prog w) A (getItem (.ref t) (.ref sl)) Q E s:=by
 obtain ⟨os,hos,hcs,hds⟩:=id hs
 have hTs:s.TypeIs (.ref sl) "slice":=⟨os,hos,hcs⟩
 unfold getItem
 try with_reducible refine wpAny_holding ?_
 first | refine wpAny_bind (wpAny_pure ?_) | skip
 refine wpAny_bind (wpAny_sequenceKey ht.typeIs (by decide) ?_)
 refine wpAny_bind (wpAny_callSpecial?_slot (name:=Str.ofString "__getitem__") ht.typeIs PyProof.Rows.slot_tuple_getitem
  (wpAny_call_entry PyProof.Rows.slot_tuple_getitem ht.typeIs entry_tuple_getitem ?_ (args_tuple_getitem _ _)))
 show wpAny _ _ (Builtin.Tuple.tupleItemsOf (.ref t) >>= _) _ _ s
 refine wpAny_bind (tupleItemsOf_ ht ?_)
 refine wpAny_bind (wpAny_typeOf hTs ?_)
 rw [if_pos (by decide)]
 refine wpAny_bind (HT.sliceApplied_gen hs pl pu ?_)
 rw [hw.1,hw.2]
 have hyes:((((0:Nat):Int) == 0 && (1:Int) == 1 && (items.size - 0) == items.size)=true):=by simp
 show wpAny _ _ (if (((0:Nat):Int) == 0 && (1:Int) == 1 && (items.size - 0) == items.size)=true then _ else _) _ _ s
 rw [if_pos hyes]
 unfold Builtin.Tuple.tupleIsExact
 refine wpAny_bind (wpAny_bind (wpAny_typeOf ht.typeIs (wpAny_pure ?_)))
 rw [if_pos (show (Value.type "tuple" == Value.type "tuple")=true by rfl)]
 exact wpAny_bind (wpAny_rule (wpAny_pure ⟨_,rfl,wpAny_pure h⟩))
noncomputable def zC (K:PySem.W.Frag):V→Option Int→Option Int→Hp→VK→Prop:=fun x lo hi H Q=>∃ a xs,x = .ref a∧SqT K H a xs∧∀ p H',Same H H'→SqT K H' p (oW xs lo hi)→Q (.ref p) H'
theorem uX:SlR X (zC X.K):=by
 intro pins s σ H x v vl vu lo hi sl Q I rx hs pl pu h
 obtain ⟨a,xs,rfl,hx,q⟩:=h
 by_cases hw:HT.sIx xs.length 0 lo=0∧HT.sIx xs.length xs.length hi=xs.length
 ·obtain rfl:v=Value.ref a:=rx
  obtain ⟨its,rv,p,hz⟩:=I.tuple hx
  have hl:=rv.length
  have ec:oW xs lo hi=xs:=by unfold oW;rw [hw.1,hw.2,List.drop_zero,Nat.sub_zero,List.take_length]
  refine ⟨"tuple",_,PyProof.Rows.slot_tuple_getitem.lookup,p.typeIs,?_⟩
  refine fH p hs pl pu (by simp only [List.size_toArray,← hl];exact hw) ?_
  exact ⟨.ref a,H,I,rfl,q a H (Same.refl H) (by rw [ec];exact hx)⟩
 ·exact wB (X:=X) pins s σ H (.ref a) v vl vu lo hi sl Q I rx hs pl pu ⟨a,xs,rfl,hx,hw,fun p hp=>q p _ (aP hp _) (.of aE)⟩
noncomputable abbrev yU (K:PySem.W.Frag):V→Option Int→Option Int→Hp→VK→Prop:=fun x lo hi H Q=>zG K x lo hi H Q∨zC K x lo hi H Q
theorem xZ {K:PySem.W.Frag}(hK:X.K=K):SlR X (yU K):=by subst hK;exact tN.or uX
end
section
variable {prog:Program}{w:World}{A:Around}{E:Value→Shared→Prop}{s:Shared}
end
end L2
namespace L2
open PySem PySem.Spec PyProof.Rows
theorem IntsAre.len:∀ {ns:List Int} {us:List Value},IntsAre us ns→us.length=ns.length
 | [],_,h=>by cases h;rfl
 | n :: ns,_,h=>by
  cases h with
  | cons _ t h=>rw [List.length_cons,List.length_cons,IntsAre.len h]
mutual
noncomputable def toP:Dt→PyData
 | .non => .none
 | .bl b => .bool b
 | .int i => .int i
 | .str x => .str x
 | .tup ds => .tuple (gA ds)
 | .lst ds => .list (gA ds)
noncomputable def gA:List Dt→List PyData
 | []=>[]
 | d :: ds=>toP d :: gA ds
end
mutual
theorem qQ:∀ d,(toP d).depth=dep d
 | .non=>rfl
 | .bl b=>rfl
 | .int i=>rfl
 | .str x=>rfl
 | .tup ds=>by show (PyData.tuple (gA ds)).depth=_;unfold PyData.depth dep;rw [jM]
 | .lst ds=>by show (PyData.list (gA ds)).depth=_;unfold PyData.depth dep;rw [jM]
theorem jM:∀ ds,PyData.depthAll (gA ds)=mC ds
 | []=>by unfold gA mC PyData.depthAll;rfl
 | d :: ds=>by unfold gA mC PyData.depthAll;rw [qQ,jM]
end
mutual
theorem iV:∀ d,(toP d).hasDict=false
 | .non=>by unfold toP PyData.hasDict;rfl
 | .bl b=>by unfold toP PyData.hasDict;rfl
 | .int i=>by unfold toP PyData.hasDict;rfl
 | .str x=>by unfold toP PyData.hasDict;rfl
 | .tup ds=>by unfold toP PyData.hasDict;exact dY ds
 | .lst ds=>by unfold toP PyData.hasDict;exact dY ds
theorem dY:∀ ds,PyData.hasDictAll (gA ds)=false
 | []=>by unfold gA PyData.hasDictAll;rfl
 | d :: ds=>by unfold gA PyData.hasDictAll;rw [iV,dY];rfl
end
section
variable {X:Cx}{pins:List (Addr × Obj)}{σ:St}{H:Hp}{s:Shared}
mutual
theorem Inv.reads (I:Inv X pins σ H s):∀ {d:Dt} {x:V} {v:Value},RelV x v→Sh X.K H d x→∃ as,Reads s.heap v (toP d) as
 | .non,x,v,r,h=>by obtain rfl:x = .non:=h;obtain rfl:v = .none:=r;exact ⟨_, .none⟩
 | .bl b,x,v,r,h=>by obtain rfl:x = .bl b:=h;obtain rfl:v = .bool b:=r;exact ⟨_, .bool b⟩
 | .int i,x,v,r,h=>by obtain rfl:x = .int i:=h;obtain ⟨t,rfl⟩:=r;exact ⟨_, .int i t⟩
 | .str y,x,v,r,h=>by obtain rfl:x = .str y:=h;obtain ⟨t,rfl⟩:=r;exact ⟨_, .str y t⟩
 | .tup ds,x,v,r,⟨a,xs,h1,h2,h3⟩=>by
  subst h1
  obtain rfl:v=Value.ref a:=r
  obtain ⟨its,rv,⟨o,ho,hc,n,hd⟩,_⟩:=I.tuple h2
  obtain ⟨as,ha⟩:=Inv.readsAll I rv h3
  exact ⟨_, .tuple ho hc hd ha⟩
 | .lst ds,x,v,r,⟨a,xs,h1,h2,h3⟩=>by
  subst h1
  obtain rfl:v=Value.ref a:=r
  obtain ⟨its,rv,pl,_⟩:=I.list h2
  obtain ⟨o,ho,hc,n,hd⟩:=pl.isList
  obtain ⟨as,ha⟩:=Inv.readsAll I rv h3
  exact ⟨_, .list ho hc hd ha⟩
theorem Inv.readsAll (I:Inv X pins σ H s):∀ {ds:List Dt} {xs:List V} {us:List Value},Vals xs us→ShL X.K H ds xs→∃ as,ReadsAll s.heap us (gA ds) as
 | [],xs,us,r,h=>by obtain rfl:xs=[]:=h;cases r;exact ⟨_, .nil⟩
 | d :: ds,xs,us,r,⟨x,t,h1,h2,h3⟩=>by
  subst h1
  cases r with
  | cons r1 r2=>
   obtain ⟨as,h4⟩:=Inv.reads I r1 h2
   obtain ⟨bs,h5⟩:=Inv.readsAll I r2 h3
   exact ⟨_, .cons h4 h5⟩
end
end
noncomputable def okR (d:Dt):Prop:=(toP d).showable=true∧(toP d).leavesShort 1930=true∧(toP d).bulk≤4000∧dep d≤100
noncomputable def rV (K:PySem.W.Frag):List V→Hp→VK→Prop:=fun vs H Q=>∃ (d:Dt) (x:V),vs=[x]∧Sh K H d x∧okR d∧Q (.str (toP d).shown) H
theorem pG {X:Cx}{k:Nat}(hr:Room k X.A):CallR X (.builtin "repr") (rV X.K):=by
 intro pins s σ H xs us Q I r ⟨d,x,e,hx,⟨k1,k2,k3,k4⟩,q⟩
 subst e
 obtain ⟨u,rfl,ru⟩:=iO r
 obtain ⟨as,hR⟩:=I.reads ru hx
 have hsz:(toP d).shown.length≤sizeLine:=by
  refine Nat.le_trans (PyData.shown_le_bulk 1930 (by decide) _ k2) (Nat.le_trans (Nat.add_le_add_right (Nat.mul_le_mul_left _ k3) _) (by decide))
 have fin:∀ (h':Heap) (t:Tok) (tk:Nat),(∀ b o,s.heap.get? b=some o→h'.get? b=some o)→EP X pins σ Q (.str (toP d).shown t) { s with heap:=h',toks:=tk }:=fun h' t tk kp=>
  ⟨.str (toP d).shown,H,I.kept (t':=tk) kp,⟨t,rfl⟩,q⟩
 cases u with
 | ref a=>
  exact repr_of_reads' hR k1 (PyData.noDict_hsm (iV d)) hr.gd (by rw [qQ];have:=hr.un;omega) (fun _ _ e=>e) (fun h' u tk hk=>fin h' u tk hk) hsz
 | none=>
  cases d <;> first | (cases hR;done) | skip
  exact P.repr_of_none (fin _ _ _ fun _ _ e=>e)
 | bool b=>
  cases d <;> cases hR
  exact P.repr_of_bool (fin _ _ _ fun _ _ e=>e)
 | int i t=>
  cases d <;> cases hR
  exact P.repr_of_int (by simpa [toP,PyData.showable] using k1) (fin _ _ _ fun _ _ e=>e)
 | str y t=>
  cases d <;> cases hR
  exact P.repr_of_str (fin _ _ _ fun _ _ e=>e) hsz
 | _=>cases d <;> cases hR
theorem iU {X:Cx}{K:PySem.W.Frag}{k:Nat}(hK:X.K=K)(hr:Room k X.A):CallR X (.builtin "repr") (rV K):=by subst hK;exact pG hr
end L2
namespace L2
open PySem PySem.Spec PyProof.Rows
noncomputable def ItAt (b:Bool) (h:Heap) (it l:Addr) (i:Nat):Prop:=∃ o,h.get? it=some o∧o.cls = .type (if b then "list_iterator" else "tuple_iterator")∧o.data = .fields #[.ref l, .int i 0]
noncomputable def rE (b:Bool) (h:Heap) (l:Addr) (us:Array Value):Prop:=∃ o,h.get? l=some o∧o.cls = .type (if b then "list" else "tuple")∧∃ n,o.data = .seq us n
theorem ItAt.keep {b:Bool}{h h':Heap}{it l:Addr}{i:Nat}(x:ItAt b h it l i)(e:∀ o,h.get? it=some o→h'.get? it=some o):ItAt b h' it l i:=let ⟨o,ho,r⟩:=x;⟨o,e _ ho,r⟩
theorem ItAt.lt {b:Bool}{h:Heap}{it l:Addr}{i:Nat}(x:ItAt b h it l i):it<h.objs.size:=let ⟨_,ho,_⟩:=x;Heap.lt_size ho
section
variable {prog:Program}{w:World}{A:Around}{E:Value→Shared→Prop}{s:Shared}
theorem iG {it t:Addr}{i:Nat}{us:Array Value}{x:Value}{Q:Value→Shared→Prop}(hit:s.heap.IsTupleIter it t i)(ht:s.heap.IsTuple t us)(hx:us[i]?=some x)
  (q:∀ h',h'.IsTupleIter it t (i+1)→Heap.SameBut it s.heap h'→Q x { s with heap:=h' }):wpAny (model prog w) A (Builtin.SmallTypes.nextOf (.ref it)) Q E s:=by
 obtain ⟨ob,e1,e2,e3⟩:=id hit
 obtain ⟨ol,f1,_,nl,f2⟩:=ht
 unfold Builtin.SmallTypes.nextOf;refine wpAny_bind (wpAny_callSpecial?_slot (name:=Str.ofString "__next__") hit.typeIs F.slot_tuple_iterator_next (wpAny_call_entry F.slot_tuple_iterator_next hit.typeIs F.entry_tuple_iterator_next ?g (F.args_tuple_iterator_next_1 _)))
 case g=>
  show wpAny _ _ (field (.ref it) 0 >>= _) _ _ s;refine wpAny_bind (wpAny_field e1 e3 (x := .ref t) rfl ?g)
  case g=>
   show wpAny _ _ (if (Value.ref t == Value.none)=true then _ else _) _ _ s;rw [if_neg (show ¬ ((Value.ref t == Value.none)=true) from Bool.false_ne_true)]
   show wpAny _ _ (field (.ref it) 1 >>= _) _ _ s;refine wpAny_bind (wpAny_field e1 e3 (x := .int i 0) rfl ?g)
   case g=>
    show wpAny _ _ (seqItems? (.ref t) >>= _) _ _ s;refine wpAny_bind (wpAny_seqItems f1 f2 ?g)
    case g=>
     simp only [Int.toNat_natCast,hx];refine wpAny_bind (wpAny_setField e1 e3 (by simp) (wpAny_pure ⟨x,rfl,wpAny_pure (q _ ?g (Heap.SameBut.update ..))⟩))
     case g=>exact ⟨_,Heap.get?_update_self _ e1 (Obj.isFreed_of_fields (Obj.data_mapFields e3 _)),(Obj.cls_mapFields ..).trans e2,by rw [Obj.data_mapFields e3];simp [rawInt]⟩
theorem iL {it t:Addr}{i:Nat}{us:Array Value}{Q:Value→Shared→Prop}(hh:A.handled=none)(hit:s.heap.IsTupleIter it t i)(ht:s.heap.IsTuple t us)(hx:us[i]?=none)
  (q:∀ h' e,Heap.ExtBut it s.heap h'→(∃ o,h'.get? e=some o∧o.cls = .type "StopIteration")→E (.ref e) { s with heap:=h' }):wpAny (model prog w) A (Builtin.SmallTypes.nextOf (.ref it)) Q E s:=by
 obtain ⟨ob,e1,e2,e3⟩:=id hit
 obtain ⟨ol,f1,_,nl,f2⟩:=ht
 unfold Builtin.SmallTypes.nextOf;refine wpAny_bind (wpAny_callSpecial?_slot (name:=Str.ofString "__next__") hit.typeIs F.slot_tuple_iterator_next (wpAny_call_entry F.slot_tuple_iterator_next hit.typeIs F.entry_tuple_iterator_next ?g (F.args_tuple_iterator_next_1 _)))
 case g=>
  show wpAny _ _ (field (.ref it) 0 >>= _) _ _ s;refine wpAny_bind (wpAny_field e1 e3 (x := .ref t) rfl ?g)
  case g=>
   show wpAny _ _ (if (Value.ref t == Value.none)=true then _ else _) _ _ s;rw [if_neg (show ¬ ((Value.ref t == Value.none)=true) from Bool.false_ne_true)]
   show wpAny _ _ (field (.ref it) 1 >>= _) _ _ s;refine wpAny_bind (wpAny_field e1 e3 (x := .int i 0) rfl ?g)
   case g=>
    show wpAny _ _ (seqItems? (.ref t) >>= _) _ _ s;refine wpAny_bind (wpAny_seqItems f1 f2 ?g)
    case g=>
     simp only [Int.toNat_natCast,hx];refine wpAny_bind (wpAny_rule (wpAny_bind (wpAny_setField e1 e3 (by simp) ?g)))
     case g=>
      show wpAny _ _ (newExc (.type "StopIteration") [] >>= _) _ _ _;refine wpAny_bind ?g
      case g=>
       simp only [newExc,newTuple];refine wpAny_bind (wpAny_newObj_type ?g (by size_fits))
       case g=>
        refine wpAny_bind (m:=firstArgMember _ _) (wpAny_of_eq (a:=Value.none) (by first | rfl | (simp only [firstArgMember];rfl)) ?g)
        case g=>
         refine wpAny_newObj_type ?g (by size_fits)
         case g=>
          simp only [raiseNew];refine wpAny_bind (wpAny_handled ?g)
          case g=>
           first | rw [show A.in1.handled=none from hh] | rw [hh]
           exact wpAny_bind (wpAny_pure (wpAny_throw (q _ _ (((Heap.SameBut.update ..).extBut.push _).push _) ⟨_,Heap.get?_push_size _ rfl,rfl⟩)))
theorem rH {b:Bool}{it l:Addr}{i:Nat}{us:Array Value}{x:Value}{Q:Value→Shared→Prop}(hit:ItAt b s.heap it l i)(ho:rE b s.heap l us)(hx:us[i]?=some x)
  (q:∀ h',ItAt b h' it l (i+1)→Heap.SameBut it s.heap h'→Q x { s with heap:=h' }):wpAny (model prog w) A (Builtin.SmallTypes.nextOf (.ref it)) Q E s:=by
 cases b with
 | true=>exact wpAny_nextOf_list_item (l:=l) (i:=i) (items:=us) hit ho hx q
 | false=>exact iG (t:=l) (i:=i) (us:=us) hit ho hx q
theorem uP {b:Bool}{it l:Addr}{i:Nat}{us:Array Value}{Q:Value→Shared→Prop}(hh:A.handled=none)(hit:ItAt b s.heap it l i)(ho:rE b s.heap l us)(hx:us[i]?=none)
  (q:∀ h' e,Heap.ExtBut it s.heap h'→(∃ o,h'.get? e=some o∧o.cls = .type "StopIteration")→E (.ref e) { s with heap:=h' }):wpAny (model prog w) A (Builtin.SmallTypes.nextOf (.ref it)) Q E s:=by
 cases b with
 | true=>exact wpAny_nextOf_list_end (l:=l) (i:=i) (items:=us) hh hit ho hx q
 | false=>exact iL (t:=l) (i:=i) (us:=us) hh hit ho hx q
noncomputable abbrev itO (b:Bool) (l:Addr):Obj:={ cls := .type (if b then "list_iterator" else "tuple_iterator"),data := .fields #[.ref l, .int 0 0] }
theorem nJ {b:Bool}{l:Addr}{us:Array Value}{Q:Value→Shared→Prop}(ho:rE b s.heap l us)(q:Q (.ref s.heap.objs.size) { s with heap:=s.heap.push (itO b l) }):wpAny (model prog w) A (pyIter (.ref l)) Q E s:=by
 cases b with
 | true=>exact wpAny_pyIter_list (show s.heap.IsList l us from ho) q
 | false=>exact wpAny_pyIter_tuple (show s.heap.IsTuple l us from ho) q
end
end L2
namespace L2
open PySem PySem.Spec PyProof.Rows
section
variable {X:Cx}{pins:List (Addr × Obj)}{σ:St}{H:Hp}{s:Shared}{h':Heap}
theorem Inv.turnedL {t':Nat}{ch:List Addr}(I:Inv X pins σ H s)(hf:∀ b∈ch,mG X pins H b)(k:∀ b o,b∉ch→s.heap.get? b=some o→h'.get? b=some o):Inv X pins σ H { s with heap:=h',toks:=t' }:=by
 have nit:∀ b u,H b=some u→b∉ch:=fun b u e z=>by rw [(hf b z).1] at e;cases e
 refine I.step (g':=s.gens) (d':=s.drawn) (ch:=ch) (fun b hb=>?_) (fun b o _ _ hc e _=>k b o hc e) (fun b o _ _ hc e _=>⟨o.slots,k b o hc e⟩) (fun _ _ _ _ n=>n) (fun b o hc e=>⟨o,k b o hc e⟩) (fun _ _ e=>e) (fun _ _ _ e=>e) (fun b ps e=>⟨#[],by rw [e];simp⟩) (fun m hm=>?_) (fun b u e=>?_) I.bare
 ·obtain ⟨_,f1,_,f3,f4,f5⟩:=hf b hb
  exact ⟨f3,f1,f4,f5⟩
 ·obtain ⟨o,es,ep,ho,r⟩:=hm
  exact ⟨o,es,ep,k _ o (fun z=>(hf _ z).2.1 rfl) ho,r⟩
 ·refine (I.hok b u e).stay (fun c v hc q=>k c v ?_ q) (fun _ q=>q) fun _ _ q=>q
  rcases hc with z | z
  ·rw [z];exact nit b u e
  ·exact nit c _ z
end
noncomputable def SqB (b:Bool) (K:PySem.W.Frag) (H:Hp) (l:Addr) (xs:List V):Prop:=match b with | true=>SqL K H l xs | false=>SqT K H l xs
section
variable {X:Cx}{pins:List (Addr × Obj)}{σ:St}{H:Hp}{s:Shared}
theorem Inv.obAt {b:Bool}{l:Addr}{xs:List V}(I:Inv X pins σ H s)(h:SqB b X.K H l xs):∃ its:List Value,Vals xs its∧rE b s.heap l its.toArray∧xs.length≤sizeLine:=by
 cases b with
 | true=>
  obtain ⟨its,rv,pl,hz⟩:=I.list h
  obtain ⟨o,ho,hc,n,hd⟩:=pl.isList
  exact ⟨its,rv,⟨o,ho,hc,n,hd⟩,hz⟩
 | false=>
  obtain ⟨its,rv,⟨o,ho,hc,n,hd⟩,hz⟩:=I.tuple h
  exact ⟨its,rv,⟨o,ho,hc,n,hd⟩,hz⟩
theorem Inv.sqB_inj {b:Bool}{l:Addr}{xs ys:List V}(I:Inv X pins σ H s)(h:SqB b X.K H l xs)(h':SqB b X.K H l ys):xs=ys:=by
 cases b with
 | true=>exact I.list_inj h h'
 | false=>exact I.tuple_inj h h'
end
theorem qO:bootBuiltins "repr" = some (.builtin "repr"):=by decide +kernel
structure zV (mg:Str→Option Value):Prop extends Blt mg where
 zip:mg "zip" = none
 repr:mg "repr" = none
 enumerate:mg "enumerate" = none
 reversed:mg "reversed" = none
 str:mg "str" = none
end L2
namespace L2
open PySem PySem.Spec PyProof.Rows
section
variable {prog:Program}{w:World}{A:Around}{E:Value→Shared→Prop}{s:Shared}
end
theorem eI {X:Cx}{K:PySem.W.Frag}{o e:Expr}{es:List Expr}{to:TE}{t:TA}{name:Str}{apos cpos:Pos}{T id:String}{r:V→List V→Hp→VK→Prop}(hK:X.K=K)(pa:PlainAttrs T)(slot:Slot T name id)(hty:typeOf (.builtin id)=pure (.type "method_descriptor"))(hm:MtM X id r)(ho:PE X o to)(ha:PA X (e :: es) t)
  (b1:attributeBase o name X.env (eval o X.env)=eval o X.env:=by rfl)
  (b2:((backTo cpos (starEach (e :: es) X.env)).all (fun x=>!x.1) && (backToKw cpos (keywordEach [] X.env)).all (fun x=>x.1.isSome) && decide ((e :: es).length+([]:List Keyword).length+(if ([]:List Keyword).isEmpty then 0 else 1)<30))=true:=by rfl)
  (b3:(apos.endLine == cpos.line)=true:=by rfl) (b4:starEach (e :: es) X.env=(false,eval e X.env) :: starEach es X.env:=by rfl) (b5:(backTo cpos (starEach es X.env)).any (·.1)=false:=by rfl) :
  PE X (.Call (.Attribute o name apos) (e :: es) [] cpos) (tBM K T r to t):=by subst hK;exact yK pa slot hty hm ho ha b1 b2 b3 b4 b5
noncomputable def oZ:R2:=fun x y H Q=>(∃ a b,x = .bl a∧y = .bl b∧Q (.bl (!(a == b))) H)∨(y = .non∧Q (.bl (!decide (x = .non))) H)
theorem qB {X:Cx}:OpR X (compareOp .IsNot) oZ:=by
 refine OpR.or (fun pins s σ H x y v u Q I rx ry h=>?g) uA
 case g=>
 obtain ⟨a,b,rfl,rfl,q⟩:=h
 obtain rfl:v=Value.bool a:=rx
 obtain rfl:u=Value.bool b:=ry
 exact wpAny_isNot_plain (by cases a <;> cases b <;> rfl) (tG I q (by cases a <;> cases b <;> rfl))
end L2
namespace L2
open PySem PySem.Spec PyProof.Rows
end L2
namespace L2
open PySem
noncomputable def vK (p:Nat):V := .int (p:Int)
theorem eD {c:Bool}{A B:Prop}(e:c=true)(h:A):if c=true then A else B:=by rw [if_pos e];exact h
theorem eK {c:Bool}{A B:Prop}(e:c=false)(h:B):if c=true then A else B:=by subst e;exact rA h
theorem mH {K:PySem.W.Frag}{H:Hp}{a l:Addr}{xs ys:List V}{o:HO}(h:SqT K H a xs)(hl:H l=some (.lst ys)):SqT K (upd H l o) a xs:=by
 have key:∀ u,H a=some u→(∀ zs,u ≠ .lst zs)→upd H l o a=some u:=fun u e n=>by
  rw [aJ]
  ·exact e
  ·intro z
   rw [z,hl] at e
   cases e
   exact n _ rfl
 rcases h with (h | ⟨u,h⟩) | h
 ·exact .inl (.inl (key _ h fun _ z=>by cases z))
 ·exact .inl (.inr ⟨u,key _ h fun _ z=>by cases z⟩)
 ·exact .inr h
section
variable {K:PySem.W.Frag}{H:Hp}
theorem tS {xs:List V}{v:V}(hj:xs[xs.length - 1]?=some v):atI xs (-1)=some v:=by
 have hl:xs.length - 1<xs.length:=(List.getElem?_eq_some_iff.mp hj).1
 unfold atI ixN
 rw [if_neg (by decide),if_pos (by omega),show ((-1:Int)+(xs.length:Int)).toNat=xs.length - 1 by omega]
 exact hj
theorem nF {p:Addr}{xs:List V}{v:V}{Q:VK}(h:SqL K H p xs)(hj:xs[xs.length - 1]?=some v)(q:Q v H):fY K (.ref p) (.int (-1)) H Q := .inl ⟨p,xs,-1,v,rfl,rfl,h,tS hj,q⟩
end
theorem oM {c:Int}{n:Nat}(h:1≤n):∃ k:Nat,c % (n:Int)=(k:Int)∧k<n:=by
 have g0:=Int.emod_nonneg c (show (n:Int)≠0 by omega)
 have g1:=Int.emod_lt_of_pos c (show (0:Int)<(n:Int) by omega)
 obtain ⟨k,hk⟩:=Int.eq_ofNat_of_zero_le g0
 exact ⟨k,hk,by omega⟩
theorem zP {ps:List Nat}{i:Nat}(h:i<ps.length):(ps.map vK)[i]?=some (vK (ps.getD i 0)):=by
 rw [List.getElem?_map,List.getD_eq_getElem?_getD,List.getElem?_eq_getElem h]
 rfl
theorem nY {i j:Int}:(!eqD (.int i) (.int j)) = !decide (i=j):=by rw [eqD];rfl
noncomputable def Rows (K:PySem.W.Frag) (H:Hp) (xs:List V) (T:List (List Int)):Prop:=xs.length=T.length∧∀ (i:Nat) (row:List Int),T[i]?=some row→∃ b,xs[i]?=some (.ref b)∧SqT K H b (row.map V.int)
section
variable {K:PySem.W.Frag}{H H':Hp}{xs:List V}{T:List (List Int)}
theorem Rows.map (h:Rows K H xs T)(f:∀ b row,SqT K H b row→SqT K H' b row):Rows K H' xs T:=⟨h.1,fun i row e=>by
 obtain ⟨b,e1,e2⟩:=h.2 i row e
 exact ⟨b,e1,f _ _ e2⟩⟩
theorem Rows.same (h:Rows K H xs T)(e:Same H H'):Rows K H' xs T:=h.map fun _ _ s=>e.tup s
theorem Rows.put (h:Rows K H xs T){l:Addr}{ys:List V}{o:HO}(hl:H l=some (.lst ys)):Rows K (upd H l o) xs T:=h.map fun _ _ s=>mH s hl
theorem Rows.nil:Rows K H [] []:=⟨rfl,fun i row e=>by cases e⟩
theorem Rows.snoc (h:Rows K H xs T){b:Addr}{r:List Int}(hb:SqT K H b (r.map V.int)):Rows K H (xs++[.ref b]) (T++[r]):=by
 refine ⟨by rw [List.length_append,List.length_append,h.1];rfl,fun i row e=>?_⟩
 by_cases hi:i<T.length
 ·rw [List.getElem?_append_left hi] at e
  obtain ⟨b',e1,e2⟩:=h.2 i row e
  exact ⟨b',by rw [List.getElem?_append_left (by rw [h.1];exact hi)];exact e1,e2⟩
 ·rw [List.getElem?_append_right (by omega)] at e
  have:i - T.length=0:=by
   rcases hk:i - T.length with _ | k
   ·rfl
   ·rw [hk] at e;cases e
  rw [this] at e
  cases e
  exact ⟨b,by rw [List.getElem?_append_right (by rw [h.1];omega),h.1,this];rfl,hb⟩
end
end L2
namespace L2
open PySem PySem.Spec PyProof.Rows
section
variable {prog:Program}{w:World}{A:Around}{E:Value→Shared→Prop}{s:Shared}
theorem qH {b:Bool}{z it l:Addr}{k:Nat}{us:Array Value}{x u:Value}{Q:Value→Shared→Prop}(hne:z≠it)(hz:IsEnum s.heap z it k u)(h1:ItAt b s.heap it l k)(o1:rE b s.heap l us)(hx:us[k]?=some x)
  (q:∀ h',IsEnumOut h' z it ((k:Int)+1) x s.heap.objs.size→ItAt b h' it l (k+1)→h'.get? s.heap.objs.size=some { cls := .type "tuple",data := .seq #[.int k s.toks,x] }→h'.objs.size=s.heap.objs.size+1→(∀ c o,c≠z→c≠it→s.heap.get? c=some o→h'.get? c=some o)→Q (.ref s.heap.objs.size) { s with heap:=h',toks:=s.toks+1 }) :
  wpAny (model prog w) A (Builtin.«enumerate.__next__» ⟨[.ref z],[]⟩) (fun fin s'=>∃ r,fin = .done (.ret r)∧Q r s') E s:=by
 show wpAny _ _ (field (.ref z) 2 >>= _) _ _ _;refine wpAny_bind (wpAny_field hz rfl (x := .ref it) rfl (wpAny_bind (rH (b:=b) h1 o1 hx fun H1 t1 s1=>?g)))
 case g=>
 have z1:IsEnum H1 z it k u:=s1.extBut _ _ hne hz
 show wpAny _ _ (field (.ref z) 3 >>= _) _ _ _;refine wpAny_bind (wpAny_field z1 rfl (x:=rawInt k) rfl ?g)
 case g=>
 show wpAny _ _ (field (.ref z) 4 >>= _) _ _ _;refine wpAny_bind (wpAny_field z1 rfl (x := .none) rfl ?g)
 case g=>
 show wpAny _ _ (mkInt k >>= _) _ _ _;refine wpAny_bind (wpAny_mkInt ?g)
 case g=>
 show wpAny _ _ (setField (.ref z) 3 (rawInt ((k:Int)+1)) >>= _) _ _ _;refine wpAny_bind (wpAny_setField_rec z1 (by simp) fun H2 z2 s2=>?g)
 case g=>
 replace z2:IsEnum H2 z it ((k:Int)+1) u:=z2
 show wpAny _ _ (setField (.ref z) 4 .none >>= _) _ _ _;refine wpAny_bind (wpAny_setField_rec z2 (by simp) fun H3 z3 s3=>?g)
 case g=>
 replace z3:IsEnum H3 z it ((k:Int)+1) u:=z3
 show wpAny _ _ (newTuple [.int k s.toks,x] >>= _) _ _ _;refine wpAny_bind (wpAny_newTuple ?g)
 case g=>
 have sz:H3.objs.size=s.heap.objs.size:=by rw [s3.1,s2.1,s1.1]
 have z4:IsEnum (H3.push { cls := .type "tuple",data := .seq #[.int k s.toks,x] }) z it ((k:Int)+1) u:=Heap.get?_push_of_some _ z3
 have lz:z<H3.objs.size:=Heap.lt_size z3
 show wpAny _ _ (Builtin.SmallTypes.ownedTupleIsFree (.ref z) >>= _) _ _ _;unfold Builtin.SmallTypes.ownedTupleIsFree;refine wpAny_bind (wpAny_bind (wpAny_field z4 rfl (x := .none) rfl (wpAny_pure ?g)))
 case g=>
 simp only [if_true];refine wpAny_bind (wpAny_rule (wpAny_bind (wpAny_field z4 rfl (x:=u) rfl (wpAny_bind (wpAny_setField_rec z4 (by simp) fun H5 z5 s5=>?g)))))
 case g=>
 replace z5:IsEnum H5 z it ((k:Int)+1) x:=z5
 show wpAny _ _ (Builtin.SmallTypes.ownedTupleHandOut (.ref z) (.ref H3.objs.size) >>= _) _ _ _;unfold Builtin.SmallTypes.ownedTupleHandOut;refine wpAny_bind (wpAny_bind (wpAny_setField_rec z5 (by simp) fun H6 z6 s6=>?g))
 case g=>
 replace z6:IsEnumOut H6 z it ((k:Int)+1) x H3.objs.size:=z6
 refine wpAny_setField_rec z6 (by simp) fun H7 z7 s7=>?g
 case g=>
 replace z7:IsEnumOut H7 z it ((k:Int)+1) x H3.objs.size:=z7
 have up:∀ c o,c≠z→H3.get? c=some o→H7.get? c=some o:=fun c o n e=>s7.extBut _ _ n (s6.extBut _ _ n (s5.extBut _ _ n (Heap.get?_push_of_some _ e)))
 have p7:H7.get? H3.objs.size=some { cls := .type "tuple",data := .seq #[.int k s.toks,x] }:=s7.extBut _ _ (Nat.ne_of_gt lz) (s6.extBut _ _ (Nat.ne_of_gt lz) (s5.extBut _ _ (Nat.ne_of_gt lz) (Heap.get?_push_size _ rfl)))
 have n7:H7.objs.size=H3.objs.size+1:=by rw [s7.1,s6.1,s5.1,Heap.size_push]
 rw [sz] at z7 p7 n7
 refine wpAny_bind (wpAny_letGo (wpAny_pure ⟨_,rfl,(?g:Q (.ref H3.objs.size) _)⟩))
 case g=>
 rw [sz]
 refine q H7 z7 (t1.keep fun o e=>up _ o hne.symm (s3.extBut _ _ hne.symm (s2.extBut _ _ hne.symm e))) p7 n7 fun c o n m e=>up c o n (s3.extBut _ _ n (s2.extBut _ _ n (s1.extBut _ _ m e)))
theorem rY {b:Bool}{z it l:Addr}{k:Nat}{us:Array Value}{u:Value}{Q:Fin→Shared→Prop}(hh:A.handled=none)(hz:IsEnum s.heap z it k u)(h1:ItAt b s.heap it l k)(o1:rE b s.heap l us)(hx:us[k]?=none)
  (q:∀ h' e,Heap.ExtBut it s.heap h'→(∃ o,h'.get? e=some o∧o.cls = .type "StopIteration")→E (.ref e) { s with heap:=h' }) :
  wpAny (model prog w) A (Builtin.«enumerate.__next__» ⟨[.ref z],[]⟩) Q E s:=by
 show wpAny _ _ (field (.ref z) 2 >>= _) _ _ _
 exact wpAny_bind (wpAny_field hz rfl (x := .ref it) rfl (wpAny_bind (uP (b:=b) hh h1 o1 hx q)))
end
noncomputable def Ite (K : PySem.W.Frag) (b : Bool) (l : Addr) : It :=
  ⟨fun i H => ∃ xs x, SqB b K H l xs ∧ xs[i]? = some x,
   fun i H v H' => ∃ p x, v = .ref p ∧ H p = none ∧ H' = upd H p (.tup [.int (i : Int), x]) ∧ ∀ xs, SqB b K H l xs → xs[i]? = some x,
   fun i H => ∃ xs, SqB b K H l xs ∧ xs.length ≤ i⟩
noncomputable def eTn (b:Bool) (z it l:Addr) (i:Nat) (h:Heap):Prop:=(∃ u,IsEnum h z it i u)∧ItAt b h it l i
theorem oN {P:Program}{w:World}{K:PySem.W.Frag}{es:List Expr}{k:Nat}{pos:Pos}{b:Bool}{z it l:Addr}(hne:z≠it) :
  vF P w K (.Tuple es k pos) (Ite K b l) [z,it] z (eTn b z it l) where
 mem:=by simp
 obj:=fun i h ⟨⟨u,h1⟩,⟨o2,h2,_,d2⟩⟩ c hb=>by
  simp only [List.mem_cons,List.not_mem_nil,or_false] at hb
  rcases hb with rfl | rfl
  ·exact ⟨_,h1,fun v q=>by cases q⟩
  ·exact ⟨_,h2,fun v q=>by rw [d2] at q;cases q⟩
 keep:=fun i h h' ⟨⟨u,h1⟩,h2⟩ kp=>⟨⟨u,kp z (by simp) _ h1⟩,h2.keep fun o e=>kp it (by simp) o e⟩
 item:=by
  intro X hP hw hK hc i pins s σ H E I hf st hg
  subst hP hw hK
  obtain ⟨⟨u0,h1⟩,h2⟩:=st
  obtain ⟨xs,x,q1,hx⟩:=hg
  obtain ⟨us,r1,o1,z1⟩:=I.obAt q1
  obtain ⟨ux,hux,rx⟩:=r1.get hx
  have hT:s.TypeIs (.ref z) "enumerate":=⟨_,h1,rfl⟩
  unfold pyNext
  refine wpAny_bind (wpAny_attempt (wpAny_callSpecial?_slot (name:=Str.ofString "__next__") hT F.slot_enumerate_next (wpAny_call_entry F.slot_enumerate_next hT F.entry_enumerate_next (qH hne h1 h2 o1 (by simpa using hux) fun h' g1 g2 g3 g4 kp=>wpAny_pure ⟨_,rfl,?g⟩) (F.args_enumerate_next_1 _))))
  case g=>
  refine wpAny_letOwnedTupleGo_enum (s:={ s with heap:=h',toks:=s.toks+1 }) g1 fun h2' g1' sb=>?g
  case g=>
  have lt:∀ c∈[z,it],c<s.heap.objs.size:=fun c hb=>by
   simp only [List.mem_cons,List.not_mem_nil,or_false] at hb
   rcases hb with rfl | rfl
   ·exact Heap.lt_size h1
   ·exact h2.lt
  have kb:∀ c o,c∉[z,it]→s.heap.get? c=some o→h'.get? c=some o:=fun c o n e=>kp c o (fun q=>n (by simp [q])) (fun q=>n (by simp [q])) e
  have hn:H s.heap.objs.size=none:=I.hok.fresh (Nat.le_refl _)
  have I1:Inv X pins σ (upd H s.heap.objs.size (.tup [.int (i:Int),x])) { s with heap:=s.heap.push { cls := .type "tuple",data := .seq #[.int i s.toks,ux] },toks:=s.toks+1 }:=
   I.laid (t':=s.toks+1) (fun c o e=>Heap.get?_push_of_some _ e) (Nat.le_refl _) (show ObjOk X.prog X.w _ _ _ (.tup [.int (i:Int),x]) from ⟨show 2≤sizeLine by decide,[.int i s.toks,ux], .cons ⟨_,rfl⟩ (.cons rx .nil),TupN.new _ _⟩)
  have hf1:∀ c∈[z,it],mG X pins (upd H s.heap.objs.size (.tup [.int (i:Int),x])) c:=fun c hb=>by
   obtain ⟨f0,f⟩:=hf c hb
   exact ⟨by rw [aJ (Nat.ne_of_lt (lt c hb))];exact f0,f⟩
  have I2:Inv X pins σ (upd H s.heap.objs.size (.tup [.int (i:Int),x])) { s with heap:=h',toks:=s.toks+1 }:=I1.turnedL (t':=s.toks+1) hf1 fun c o nb e=>by
   rcases Heap.get?_push_cases e with ⟨eb,eo⟩ | e
   ·subst eb;subst eo
    exact g3
   ·exact kb c o nb e
  have I3:Inv X pins σ (upd H s.heap.objs.size (.tup [.int (i:Int),x])) { s with heap:=h2',toks:=s.toks+1 }:=I2.turnedL (t':=s.toks+1) hf1 fun c o nb e=>sb.extBut _ _ (fun q=>nb (by simp [q])) e
  exact ⟨.ref s.heap.objs.size,_,I3,rfl,⟨_,x,rfl,hn,rfl,fun xs' e=>by rw [I.sqB_inj e q1];exact hx⟩,
   ⟨⟨_,by simpa using g1'⟩,g2.keep fun o e=>sb.extBut _ _ hne.symm e⟩,fun c hb=>(hf1 c hb).1⟩
 done:=by
  intro X hP hw hK hc i pins s σ H E I hf st hg
  subst hP hw hK
  obtain ⟨⟨u0,h1⟩,h2⟩:=st
  obtain ⟨xs,q1,hl⟩:=hg
  obtain ⟨us,r1,o1,z1⟩:=I.obAt q1
  have l1':=r1.length
  have hT:s.TypeIs (.ref z) "enumerate":=⟨_,h1,rfl⟩
  unfold pyNext
  refine wpAny_bind (wpAny_attempt (wpAny_callSpecial?_slot (name:=Str.ofString "__next__") hT F.slot_enumerate_next (wpAny_call_entry F.slot_enumerate_next hT F.entry_enumerate_next (rY (I.ok.hd hc) h1 h2 o1 (by simp;omega) fun h' e kp ⟨o,e1,e2⟩=>?g) (F.args_enumerate_next_1 _))))
  case g=>
  refine wpAny_bind (wpAny_isInstance (T:="StopIteration") (b:=true) ⟨o,e1,e2⟩ isSubtype_stop (wpAny_pure ⟨rfl,?g⟩))
  case g=>
  exact I.turnedL (t':=s.toks) hf fun c o n e=>kp c o (fun q=>n (by simp [q])) e
 self:=fun _ _ _ _ _ st q=>let ⟨⟨_,h1⟩,_⟩:=st;wpAny_pyIter_enum h1 q
noncomputable abbrev eH (h:Heap) (b:Bool) (l:Addr):Heap:=(h.push (itO b l)).push { cls := .type "enumerate",data := .fields #[.none, .bool false, .ref h.objs.size,rawInt 0, .none, .none] }
theorem rP (b:Bool)(l:Addr)(xs:Array Value)(o:Obj) :
  Meets (Builtin.«enumerate.__new__» ⟨[.type "enumerate", .ref l],[]⟩) (fun _ R s=>s.heap.get? l=some o∧rE b s.heap l xs∧R (.ok (.ret (.ref (s.heap.push (itO b l)).objs.size))) { s with heap:=eH s.heap b l }):=
 .of_wp fun prog w A R s h=>by
  obtain ⟨s1,s2,s3,s4,s5⟩:=s
  obtain ⟨m0,m1,q⟩:=h
  have hsub:=sub_enumerate
  have n1:rE b (Shared.heap ⟨s1,s2,s3,s4,s5⟩) l xs:=m1
  wp_walk using AutoSeq1.wpAny_loadPart' m0
  refine wpAny_stack_any fun st=>wpAny_pure ?_
  split
  ·rename_i cc _ _ _ _ _
   cases (cc == Value.type "enumerate") <;>
   ·wp_walk using AutoSeq1.wpAny_loadPart' m0,nJ n1
    exact ⟨_,rfl,q⟩
  ·wp_walk using AutoSeq1.wpAny_loadPart' m0,nJ n1
   exact ⟨_,rfl,q⟩
theorem qU {prog:Program}{w:World}{A:Around}{E:Value→Shared→Prop}{s:Shared}{b:Bool}{l:Addr}{xs:Array Value}{Q:Value→Shared→Prop}(o1:rE b s.heap l xs)
  (q:∀ h',eTn b (s.heap.objs.size+1) s.heap.objs.size l 0 h'→(∀ c o,s.heap.get? c=some o→h'.get? c=some o)→Q (.ref (s.heap.objs.size+1)) { s with heap:=h' }) :
  wpAny (model prog w) A (call (.type "enumerate") [.ref l]) Q E s:=by
 obtain ⟨o,e0,ec,n,ed⟩:=id o1
 refine callType_new F.called_enumerate (by decide) (F.typeCall_enumerate_1 _) (F.newCall_enumerate_1 _) (fun ob=>F.args_object_init_2 ob _) F.entry_enumerate_new (rP b l xs o) ⟨e0,o1,?g⟩
 case g=>
 have z1:(s.heap.push (itO b l)).objs.size=s.heap.objs.size+1:=Heap.size_push ..
 have g2:(eH s.heap b l).get? (s.heap.push (itO b l)).objs.size=some _:=Heap.get?_push_size _ rfl
 have g1:(eH s.heap b l).get? s.heap.objs.size=some _:=Heap.get?_push_of_some _ (Heap.get?_push_size _ rfl)
 rw [z1] at g2
 show _∧_
 rw [z1]
 exact ⟨⟨_,g2,rfl⟩,q _ ⟨⟨_,g2⟩,⟨_,g1,rfl,rfl⟩⟩ fun c o x=>Heap.get?_push_of_some _ (Heap.get?_push_of_some _ x)⟩
noncomputable def rJ (K:PySem.W.Frag) (ta:TA):TI:=fun σ H R=>ta σ H fun vs H1=>∃ l b,vs=[.ref l]∧(∃ xs,SqB b K H1 l xs)∧R (Ite K b l) H1
theorem kK:bootBuiltins "enumerate" = some (.type "enumerate"):=by decide +kernel
theorem tV {X:Cx}{es:List Expr}{k:Nat}{po:Pos}{a:Expr}{ta:TA}{p pos:Pos}(hg:Gl X "enumerate")(hm:X.mg "enumerate" = none)(ha:PA X [a] ta)(hs:starEach [a] X.env=[(false,eval a X.env)]:=by rfl) :
  PI X (.Tuple es k po) (.Call (.Name "enumerate" p) [a] [] pos) (rJ X.K ta):=by
 intro pins s σ H R I h
 refine Call_ (lM I hg hm kK (PyProof.Rows.callWith_type1 (thn (ha pos pins s σ H _ I h) fun us s1 ⟨vs,H1,I1,r1,q1⟩=>?g) hs rfl))
 case g=>
 obtain ⟨l,b,e,⟨xs,q2⟩,q⟩:=q1
 subst e
 obtain ⟨u1,rfl,e1⟩:=iO r1
 obtain rfl:u1=Value.ref l:=e1
 obtain ⟨x1,v1,o1,_⟩:=I1.obAt q2
 refine qU o1 fun h' zt kp=>?g
 case g=>
 obtain ⟨⟨u0,zt1⟩,zt2⟩:=id zt
 refine wpAny_pyIter_enum (s:={ s1 with heap:=h' }) zt1 ?g
 case g=>
 refine ⟨_,[s1.heap.objs.size+1,s1.heap.objs.size],_,_,H1,rfl,I1.kept (t':=s1.toks) kp,oN (Nat.ne_of_gt (Nat.lt_succ_self _)),zt,fun c hb=>?g,q⟩
 case g=>
 have lb:s1.heap.objs.size≤c:=by
  simp only [List.mem_cons,List.not_mem_nil,or_false] at hb
  rcases hb with rfl | rfl <;> first | exact Nat.le_add_right _ _ | exact Nat.le_refl _
 exact I1.fpOk lb (I1.hok.fresh lb)
theorem nP {X:Cx}{K:PySem.W.Frag}{es:List Expr}{k:Nat}{po:Pos}{a:Expr}{ta:TA}{p pos:Pos}(hK:X.K=K)(hg:Gl X "enumerate")(hm:X.mg "enumerate" = none)(ha:PA X [a] ta)(hs:starEach [a] X.env=[(false,eval a X.env)]:=by rfl) :
  PI X (.Tuple es k po) (.Call (.Name "enumerate" p) [a] [] pos) (rJ K ta):=by subst hK;exact tV hg hm ha hs
theorem nO {K:PySem.W.Frag}{b:Bool}{l:Addr}{xs:List V}{g:TG}{tb:TS}{D:kA}{σ:St}{H:Hp}(Pv:Nat→St→Hp→Prop)(h0:Pv 0 σ H)(hl:∀ i σ H,i≤xs.length→Pv i σ H→SqB b K H l xs)
  (hs:∀ i x σ H p,xs[i]?=some x→H p=none→Pv i σ H→g (.ref p) σ (upd H p (.tup [.int (i:Int),x])) fun σ2 H2=>tb { D with nx:=Pv (i+1),ct:=Pv (i+1),bk:=D.nx } σ2 H2) (hd:∀ σ H,Pv xs.length σ H→D.nx σ H) :
  iK (Ite K b l) g tb D σ H:=by
 refine ⟨fun i m σ H=>m=xs.length - i∧i≤xs.length∧Pv i σ H,⟨xs.length,by simp,Nat.zero_le _,h0⟩,?g⟩
 case g=>
 rintro i m σ H ⟨rfl,hi,p⟩
 have q1:=hl i σ H hi p
 by_cases hlt:i<xs.length
 ·refine .inr ⟨⟨xs,xs[i],q1,by simp [hlt]⟩,Pv (i+1),fun σ' H' p'=>⟨xs.length - (i+1),by omega,rfl,hlt,p'⟩,fun v H' ⟨a,x,e1,e2,e3,e4⟩=>?g⟩
  case g=>
  subst e1;subst e3
  exact hs i x σ H a (e4 xs q1) e2 p
 ·obtain rfl:i=xs.length:=by omega
  exact .inl ⟨⟨xs,q1,Nat.le_refl _⟩,hd σ H p⟩
theorem qE {K:PySem.W.Frag}{vars:List Nat}{tb:TS}{acc l:Addr}{b:Bool}{σ:St}{H:Hp}{xs:List V}{j k:Nat}{L:Nat→List V}(hj:j∈vars)(hk:k∈vars)(hjk:k≠j)(hjl:j<σ.length)(hkl:k<σ.length)(hs:∀ H',SameX acc H H'→SqB b K H' l xs)
  (h:∀ (i:Nat) (x:V) σ' H',xs[i]?=some x→σ'.length=σ.length→Agree vars σ σ'→σ'[j]?=some (some (.int (i:Int)))→σ'[k]?=some (some x)→SameX acc H H'→(∃ pre,H' acc=some (.lst pre))→Emits vars tb acc σ' H' (L i)) :
  Emits vars (iK (Ite K b l) (vX K 2 (mI (aO j) (mI (aO k) xK))) tb) acc σ H ((List.range xs.length).flatMap L):=by
 intro D pre ha hz hd
 refine nO (K:=K) (xs:=xs) (D:=D) (fun i σ' H'=>i≤xs.length∧σ'.length=σ.length∧Agree vars σ σ'∧SameX acc H H'∧H' acc=some (.lst (pre++(List.range i).flatMap L))) ⟨Nat.zero_le _,rfl,Agree.refl _ _,SameX.refl _ _,by simpa using ha⟩ (fun i σ1 H1 _ ⟨_,_,_,sx1,_⟩=>hs H1 sx1) (fun i x σ1 H1 p hx hp ⟨_,hl1,ag1,sx1,e1⟩=>?_) fun σ1 H1 ⟨_,hl1,ag1,sx1,e1⟩=>hd σ1 H1 hl1 ag1 sx1 e1
 have hi:i<xs.length:=(List.getElem?_eq_some_iff.mp hx).1
 have hle:=cZ L (show i+1≤xs.length from hi)
 rw [aQ,List.length_append] at hle
 have sp:Same H1 (upd H1 p (.tup [.int (i:Int),x])):=aP hp _
 have e2:=sp _ _ e1
 refine ⟨p,[.int (i:Int),x],rfl, .of aE,rfl, .int (i:Int),[x],rfl,x,[],rfl,rfl,?_⟩
 have ag2:Agree vars σ ((σ1.set j (some (.int (i:Int)))).set k (some x)):=(ag1.trans (Agree.set hj _)).trans (Agree.set hk _)
 refine h i x ((σ1.set j (some (.int (i:Int)))).set k (some x)) (upd H1 p (.tup [.int (i:Int),x])) hx (by rw [List.length_set,List.length_set];exact hl1) ag2 ?_ (kX (by rw [List.length_set];omega)) (sx1.trans sp.x) ⟨_,e2⟩ _ _ e2 (by rw [List.length_append];omega) fun σ' H' hl ag sx h2=>⟨hi,(hl.trans (by rw [List.length_set,List.length_set])).trans hl1,ag2.trans ag,(sx1.trans sp.x).trans sx,by rw [h2,aQ,List.append_assoc]⟩
 rw [List.getElem?_set_ne hjk]
 exact kX (by omega)
end L2
namespace L2
open PySem
section
variable {X:Cx}{es:List Expr}{te:TE}{t:TA}
theorem bD {c:Const}{k:Nat}{p:Pos}(ha:PE X (.Constant c k p) te)(hr:PA X es t):PA X (.Constant c k p :: es) (aD te t):=bJ ha hr
theorem aB {n:Str}{p:Pos}(ha:PE X (.Name n p) te)(hr:PA X es t):PA X (.Name n p :: es) (aD te t):=bJ ha hr
theorem nC {l:List Expr}{p:Pos}(ha:PE X (.List l p) te)(hr:PA X es t):PA X (.List l p :: es) (aD te t):=bJ ha hr
theorem rM {a b:Expr}{o:Operator}{p:Pos}(ha:PE X (.BinOp a o b p) te)(hr:PA X es t):PA X (.BinOp a o b p :: es) (aD te t):=bJ ha hr
theorem cF {a b:Expr}{p:Pos}(ha:PE X (.Subscript a b p) te)(hr:PA X es t):PA X (.Subscript a b p :: es) (aD te t):=bJ ha hr
theorem cE {a:Expr}{l:List Expr}{kw:List Keyword}{p:Pos}(ha:PE X (.Call a l kw p) te)(hr:PA X es t):PA X (.Call a l kw p :: es) (aD te t):=bJ ha hr
end
end L2
namespace L2
open PySem
mutual
noncomputable def nE:Dt→Bool
 | .tup ds=>decide (ds.length<64) && lA ds
 | .lst ds=>lA ds
 | _=>true
noncomputable def lA:List Dt→Bool
 | []=>true
 | d :: ds=>nE d && lA ds
end
theorem jJ:∀ {ds:List Dt},(∀ d∈ds,nE d=true)→lA ds=true
 | [],_=>by unfold lA;rfl
 | d :: ds,h=>by unfold lA;rw [h d (by simp),jJ fun e he=>h e (List.mem_cons_of_mem _ he)];rfl
theorem kI:∀ {ds:List Dt},lA ds=true→∀ d∈ds,nE d=true
 | [],_,d,h=>by cases h
 | e :: ds,h,d,hd=>by
  unfold lA at h
  rw [Bool.and_eq_true] at h
  rcases List.mem_cons.mp hd with rfl | hd
  ·exact h.1
  ·exact kI h.2 d hd
theorem nH {ds:List Dt}(h:nE (.tup ds)=true):ds.length<64∧∀ d∈ds,nE d=true:=by
 unfold nE at h
 rw [Bool.and_eq_true] at h
 exact ⟨of_decide_eq_true h.1,kI h.2⟩
noncomputable def okM (m e:Nat) (d:Dt):Prop:=(toP d).showable=true∧(toP d).leavesShort 1930=true∧(toP d).bulk≤m∧dep d≤e∧nE d=true
noncomputable def Am (K:PySem.W.Frag) (H:Hp) (m e:Nat) (x:V):Prop:=∃ d,Sh K H d x∧okM m e d
noncomputable def Goo (K:PySem.W.Frag) (H:Hp) (v:V):Prop:=∃ d,Sh K H d v∧okR d∧nE d=true
section
variable {K:PySem.W.Frag}{H H':Hp}
theorem Am.same {m e:Nat}{x:V}(s:Same H H'):Am K H m e x→Am K H' m e x:=fun ⟨d,h,o⟩=>⟨d,h.same s,o⟩
theorem Goo.same {v:V}(s:Same H H'):Goo K H v→Goo K H' v:=fun ⟨d,h,o⟩=>⟨d,h.same s,o⟩
theorem sX:(10:Nat) ^ 40<2 ^ 1920:=by decide +kernel
theorem vZ {i:Int}(h:i.natAbs<10 ^ 40):Am K H 0 0 (.int i):=by
 refine ⟨.int i,rfl,?_,?_,Nat.le_refl _,Nat.le_refl _,by unfold nE;rfl⟩
 ·show decide (i.natAbs.log2<1920)=true
  refine decide_eq_true ?_
  by_cases h0:i.natAbs=0
  ·rw [h0];decide
  ·exact (Nat.log2_lt h0).mpr (Nat.lt_trans h sX)
 ·show decide ((PyData.shown (.int i)).length≤1930)=true
  refine decide_eq_true ?_
  have e:(Str.ofString (toString i)).length≤41:=by
   rw [ofString_length]
   exact int_text_length_le10 (k:=40) (by decide) h
  exact Nat.le_trans (show (PyData.shown (.int i)).length≤41 from e) (by decide)
noncomputable def Tu (K:PySem.W.Frag) (H:Hp) (m e k:Nat) (v:V):Prop:=∃ a xs,v = .ref a∧SqT K H a xs∧xs.length≤k∧∀ x∈xs,Am K H m e x
theorem Tu.same {m e k:Nat}{v:V}(s:Same H H'):Tu K H m e k v→Tu K H' m e k v:=fun ⟨a,xs,h1,h2,h3,h4⟩=>⟨a,xs,h1,s.tup h2,h3,fun x hx=>(h4 x hx).same s⟩
end
theorem nA {c:Int}{n k:Nat}{H:Hp}{Q:VK}(h:1≤n)(e:c % (n:Int)=(k:Int))(q:Q (.int (k:Int)) H):oK (.int c) (.int (n:Int)) H Q:=⟨_,_,rfl,rfl,by omega,by show Q (.int (c % (n:Int))) H;rw [e];exact q⟩
end L2
namespace L2
open PySem PySem.Spec PyProof.Rows
inductive jD:List (Value × Value)→List (Int × Int)→Prop
 | nil:jD [] []
 | cons (a b:Int) (t u:Tok) {r:List (Value × Value)} {zs:List (Int × Int)}:jD r zs→jD ((.int a t, .int b u) :: r) ((a,b) :: zs)
noncomputable def rK (f:Bool):List (Int × Int)→Bool
 | []=>f
 | (a,b) :: r=>if a=b then rK f r else decide (a<b)
theorem qD {prog:Program}{w:World}{A:Around}{E:Value→Shared→Prop}{s:Shared}{a b:Int}{t u:Tok}{Q:Value→Shared→Prop}(h:Q (.bool (decide (a<b))) s):wpAny (model prog w) A (richCompare .Lt (.int a t) (.int b u)) Q E s:=lt_int h
theorem qA (l b:Addr)(us vs:Array Value)(n n2:Nat)(dd dd2:Option Addr)(sl sl2:Array (Option Value))(zs:List (Int × Int))(hz:jD (us.toList.zip vs.toList) zs) :
  Meets (Builtin.«tuple.__lt__» ⟨[.ref l, .ref b],[]⟩)
   (fun _ R s=>s.heap.get? l=some { cls := .type "tuple",dict:=dd,data := .seq us n,slots:=sl }∧s.heap.get? b=some { cls := .type "tuple",dict:=dd2,data := .seq vs n2,slots:=sl2 }∧R (.ok (.ret (.bool (rK (decide (us.size<vs.size)) zs)))) s):=
 .of_wp fun prog w A R s h=>by
  obtain ⟨s1,s2,s3,s4,s5⟩:=s
  obtain ⟨gl,gb,h⟩:=h
  have f2:=AutoSeq1.sub_tuple_tuple
  wp_walk using AutoSeq1.wpAny_loadPart' gl,AutoSeq1.wpAny_loadPart' gb,wpAny_forIn_list _ (fun rest b s'=>b.1=none∧s'=⟨s1,s2,s3,s4,s5⟩∧∃ ys,jD rest ys∧R (.ok (.ret (.bool (rK (decide (us.size<vs.size)) ys)))) ⟨s1,s2,s3,s4,s5⟩) _
  case turn=>
   rintro ⟨y,x⟩ rest b s' ⟨hb',rfl,ys,hy,hR⟩
   cases hy with
   | cons p q t u hr=>
    refine wpAny_bind (wpAny_eqBool_int ?_)
    by_cases e:p=q
    ·rw [show (p == q)=true by simpa using e]
     rw [rK,if_pos e] at hR
     wp_walk
     exact ⟨rfl,rfl,_,hr,hR⟩
    ·rw [show (p == q)=false by simpa using e]
     rw [rK,if_neg e] at hR
     wp_walk using qD
     exact ⟨_,rfl,hR⟩
  case fin=>
   rintro ⟨b1,b2⟩ s' ⟨hb',rfl,ys,hy,hR⟩
   simp only at hb'
   subst hb'
   cases hy
   wp_walk
   exact ⟨_,rfl,hR⟩
  case h=>
   exact ⟨rfl,rfl,zs,hz,h⟩
section
variable {prog:Program}{w:World}{A:Around}{R:Result→Shared→Prop}{It:Addr}{fp wr:List Addr}{n:Nat}{P:Nat→Value→Prop}{St:Nat→Heap→Prop}
noncomputable def yB (prog:Program) (w:World) (A:Around) (kp:Heap→Prop) (P:Nat→Value→Prop) (bt:Nat→Nat→Bool):Prop:=
 ∀ i j x y (s:Shared) (Q:Value→Shared→Prop) (E:Value→Shared→Prop),kp s.heap→P i x→P j y→Q (.bool (bt i j)) s→wpAny (model prog w) A (richCompare .Lt x y) Q E s
noncomputable def Kp (kp:Heap→Prop) (wr:List Addr) (z:Addr):Prop:=∀ h h',kp h→(∀ b o,b∉wr→b≠z→h.get? b=some o→h'.get? b=some o)→kp h'
theorem zW (W:Walks prog w A.in1 It fp wr n P St)(bt:Nat→Nat→Bool){kp:Heap→Prop}(z:Addr)(hz:z∉fp)(kk:Kp kp wr z)(hc:yB prog w A.in1 kp P bt) :
  ∀ (k j:Nat) (s:Shared) (x:Value) (c:Nat),n - (j+1)=k→j+1≤n→kp s.heap→St (j+1) s.heap→P (argBest bt j) x→s.heap.get? z=some { cls := .type "list",dict:=none,data := .seq #[x,x] c,slots:=#[] } →
  (∀ v h' tk,P (argBest bt (n - 1)) v→(∀ b o,b∉wr→b≠z→s.heap.get? b=some o→h'.get? b=some o)→R (.ok (.ret v)) { s with heap:=h',toks:=tk }) →
  codeAny (model prog w) A (.builtin "min.loop" ⟨[.ref It, .none, .ref z],[]⟩) R s:=by
 have zw:z∉wr:=fun h=>hz (W.sub _ h)
 have nm:(toString "min" ++ toString ".loop" : String)="min.loop":=by decide
 intro k
 induction k with
 | zero=>
  intro j s x c hk hj kp0 st px gz hR
  have en:j+1=n:=by omega
  refine codeAny_builtin F.entry_min_loop ?g
  case g=>
  rw [Around.under_plainId F.plain_min_loop _];show wpAny _ A.in1 (seqItems? (.ref z) >>= _) _ _ s;refine wpAny_bind (wpAny_seqItems gz rfl ?g)
  case g=>
  show wpAny _ A.in1 (tryCatch (pyNext (.ref It)) _ >>= _) _ _ s;refine wpAny_bind (wpAny_tryCatch (W.done s _ _ (en ▸ st) fun h' tk kh=>?g))
  case g=>
  show wpAny _ A.in1 (updateSeq z (fun _=>#[]) >>= _) _ _ _;refine wpAny_bind (wpAny_updateSeq (kh z _ zw gz) rfl (wpAny_bind (wpAny_letGo (wpAny_pure ?g))))
  case g=>
  exact hR x _ tk (by rw [← en];exact px) fun b o bw bz e=>(Heap.get?_update_other _ _ (Ne.symm bz)).trans (kh b o bw e)
 | succ k ih=>
  intro j s x c hk hj kp0 st px gz hR
  have lt:j+1<n:=by omega
  refine codeAny_builtin F.entry_min_loop ?g
  case g=>
  rw [Around.under_plainId F.plain_min_loop _];show wpAny _ A.in1 (seqItems? (.ref z) >>= _) _ _ s;refine wpAny_bind (wpAny_seqItems gz rfl ?g)
  case g=>
  show wpAny _ A.in1 (tryCatch (pyNext (.ref It)) _ >>= _) _ _ s;refine wpAny_bind (wpAny_tryCatch (W.item (j+1) s _ _ lt st fun v h' tk pv st' kh=>?g))
  case g=>
  have gz':=kh z _ zw gz
  have kp1:kp h':=kk _ _ kp0 fun b o bw _ e=>kh b o bw e
  show wpAny _ A.in1 (tryCatch (holding [v,v] (richCompare .Lt v x >>= _)) _ >>= _) _ _ _;refine wpAny_bind (wpAny_tryCatch (wpAny_holding (wpAny_bind (hc (j+1) (argBest bt j) v x _ _ _ kp1 pv px ?g))))
  case g=>
  refine wpAny_bind (wpAny_holding (wpAny_truthy_bool (wpAny_bind (wpAny_letGo (wpAny_pure ?g)))))
  case g=>
  cases hb:bt (j+1) (argBest bt j) with
  | true=>
   simp only [if_true];refine wpAny_bind (wpAny_updateSeq gz' rfl (wpAny_bind (wpAny_letGo ?g)))
   case g=>
   have up:∀ b o,b≠z→h'.get? b=some o→(h'.update z (Obj.mapSeq fun _=>#[v,v])).get? b=some o:=fun b o bz e=>(Heap.get?_update_other _ _ (Ne.symm bz)).trans e
   rw [nm];refine wpAny_pure ⟨plainId_quiet F.plain_min_loop _,ih (j+1) _ v _ (by omega) lt (kk _ _ kp1 fun b o _ bz e=>up b o bz e) (W.frame _ _ _ st' fun b bf o e=>up b o (fun q=>hz (by rw [← q];exact bf)) e) (by simp only [argBest,hb,if_true];exact pv) (Heap.get?_update_self _ gz' rfl) fun v' h2 tk2 pv' kh2=>?g⟩
   case g=>
   exact hR v' h2 tk2 pv' fun b o bw bz e=>kh2 b o bw bz (up b o bz (kh b o bw e))
  | false=>
   simp only [Bool.false_eq_true,if_false];refine wpAny_bind (wpAny_letGo ?g)
   case g=>
   rw [nm];refine wpAny_pure ⟨plainId_quiet F.plain_min_loop _,ih (j+1) _ x c (by omega) lt kp1 st' (by simp only [argBest,hb,Bool.false_eq_true,if_false];exact px) gz' fun v' h2 tk2 pv' kh2=>?g⟩
   case g=>
   exact hR v' h2 tk2 pv' fun b o bw bz e=>kh2 b o bw bz (kh b o bw e)
theorem zU (W:Walks prog w A.in1 It fp wr n P St)(bt:Nat→Nat→Bool){kp:Heap→Prop}(z:Addr)(hz:z∉fp)(kk:Kp kp wr z)(hc:yB prog w A.in1 kp P bt)(hn:0<n){s:Shared}{c:Nat}(kp0:kp s.heap)(st:St 0 s.heap)(gz:s.heap.get? z=some { cls := .type "list",dict:=none,data := .seq #[] c,slots:=#[] })
  (hR:∀ v h' tk,P (argBest bt (n - 1)) v→(∀ b o,b∉wr→b≠z→s.heap.get? b=some o→h'.get? b=some o)→R (.ok (.ret v)) { s with heap:=h',toks:=tk }) :
  codeAny (model prog w) A (.builtin "min.loop" ⟨[.ref It, .none, .ref z],[]⟩) R s:=by
 have zw:z∉wr:=fun h=>hz (W.sub _ h)
 have nm:(toString "min" ++ toString ".loop" : String)="min.loop":=by decide
 refine codeAny_builtin F.entry_min_loop ?g
 case g=>
 rw [Around.under_plainId F.plain_min_loop _];show wpAny _ A.in1 (seqItems? (.ref z) >>= _) _ _ s;refine wpAny_bind (wpAny_seqItems gz rfl ?g)
 case g=>
 show wpAny _ A.in1 (tryCatch (pyNext (.ref It)) _ >>= _) _ _ s;refine wpAny_bind (wpAny_tryCatch (W.item 0 s _ _ hn st fun v h' tk pv st' kh=>?g))
 case g=>
 have gz':=kh z _ zw gz
 have kp1:kp h':=kk _ _ kp0 fun b o bw _ e=>kh b o bw e
 have up:∀ b o,b≠z→h'.get? b=some o→(h'.update z (Obj.mapSeq fun _=>#[v,v])).get? b=some o:=fun b o bz e=>(Heap.get?_update_other _ _ (Ne.symm bz)).trans e
 show wpAny _ A.in1 (updateSeq z (fun _=>#[v,v]) >>= _) _ _ _;refine wpAny_bind (wpAny_updateSeq gz' rfl ?g)
 case g=>
 rw [nm];refine wpAny_pure ⟨plainId_quiet F.plain_min_loop _,zW W bt z hz kk hc _ 0 _ v _ rfl hn (kk _ _ kp1 fun b o _ bz e=>up b o bz e) (W.frame _ _ _ st' fun b bf o e=>up b o (fun q=>hz (by rw [← q];exact bf)) e) pv (Heap.get?_update_self _ gz' rfl) fun v' h2 tk2 pv' kh2=>?g⟩
 case g=>
 exact hR v' h2 tk2 pv' fun b o bw bz e=>kh2 b o bw bz (up b o bz (kh b o bw e))
end
section
variable {prog:Program}{w:World}{A:Around}{E:Value→Shared→Prop}{s:Shared}
theorem nU {x:Value}{Q:Value→Shared→Prop}
  (h:wpAny (model prog w) A.in1 (pyIter x) (fun it s₂=>∃ It fp wr n P St bt,∃ kp:Heap→Prop,it = .ref It∧Walks prog w A.in1 It fp wr n P St∧St 0 s₂.heap∧(∀ b∈fp,b<s₂.heap.objs.size)∧0<n∧kp s₂.heap∧(∀ z,s₂.heap.objs.size≤z→Kp kp wr z)∧yB prog w A.in1 kp P bt ∧
   ∀ v h' tk,P (argBest bt (n - 1)) v→(∀ b o,b∉wr→s₂.heap.get? b=some o→h'.get? b=some o)→Q v { s₂ with heap:=h',toks:=tk }) E s) :
  wpAny (model prog w) A (call (.builtin "min") [x]) Q E s:=by
 have nm:(toString "min" ++ toString ".loop" : String)="min.loop":=by decide
 refine call_function_tree F.kind_min F.plain_min F.entry_min (F.args_min1 _) ?g
 case g=>
 show wpAny _ A.in1 (Builtin.Builtins.bindParams "min" ["key","default"] 0 ⟨[],[]⟩ >>= _) _ _ s;refine wpAny_bind (wpAny_of_eq (show Builtin.Builtins.bindParams "min" ["key","default"] 0 ⟨[],[]⟩=pure [none,none] from rfl) (wpAny_bind (wpAny_pure (wpAny_bind (wpAny_mono h (fun it s2 h2=>?g) fun _ _ e=>e)))))
 case g=>
 obtain ⟨It,fp,wr,n,P,St,bt,kp,rfl,W,st,hf,hn,kp0,kk,hc,hQ⟩:=h2
 refine wpAny_bind (wpAny_newObj_type ?g)
 case g=>
 have zf:s2.heap.objs.size∉fp:=fun m=>Nat.lt_irrefl _ (hf _ m)
 have kz:=kk s2.heap.objs.size (Nat.le_refl _)
 rw [nm];refine wpAny_pure ⟨plainId_quiet F.plain_min_loop _,zU W bt s2.heap.objs.size zf kz hc hn (kz _ _ kp0 fun b o _ _ e=>Heap.get?_push_of_some _ e) (W.frame _ _ _ st fun b _ o e=>Heap.get?_push_of_some _ e) (Heap.get?_push_size _ rfl) fun v h' tk pv kh=>?g⟩
 case g=>
 exact hQ v h' tk pv fun b o bw e=>kh b o bw (Nat.ne_of_lt (Heap.lt_size e)) (Heap.get?_push_of_some _ e)
end
end L2
namespace L2
open PySem PySem.Spec PyProof.Rows
noncomputable def jW:List Int→List Int→Bool
 | [],[]=>false
 | [],_ :: _=>true
 | _ :: _,[]=>false
 | a :: r,b :: q=>if a=b then jW r q else decide (a<b)
theorem pX:∀ (ns ms:List Int),rK (decide (ns.length<ms.length)) (ns.zip ms)=jW ns ms
 | [],[]=>rfl
 | [],m :: ms=>by simp [rK,jW]
 | n :: ns,[]=>by simp [rK,jW]
 | n :: ns,m :: ms=>by
  rw [List.zip_cons_cons,rK,jW,← pX ns ms]
  have:decide ((n :: ns).length<(m :: ms).length)=decide (ns.length<ms.length):=by
   by_cases h:ns.length<ms.length <;> simp [h]
  rw [this]
theorem mV:∀ ns:List Int,jW ns ns=false
 | []=>rfl
 | n :: ns=>by rw [jW,if_pos rfl];exact mV ns
theorem iT:∀ {a b c:List Int},jW a b=true→jW b c=true→jW a c=true
 | [],[],_,h,_=>by cases h
 | [],_ :: _,[],_,h=>by cases h
 | [],_ :: _,_ :: _,_,_=>rfl
 | _ :: _,[],_,h,_=>by cases h
 | _ :: _,_ :: _,[],_,h=>by cases h
 | x :: a,y :: b,z :: c,h1,h2=>by
  rw [jW] at h1 h2 ⊢
  by_cases e1:x=y <;> by_cases e2:y=z
  ·subst e1 e2
   rw [if_pos rfl] at h1 h2 ⊢
   exact iT h1 h2
  ·subst e1
   rw [if_neg e2] at h2 ⊢
   exact h2
  ·subst e2
   rw [if_neg e1] at h1 ⊢
   exact h1
  ·rw [if_neg e1] at h1
   rw [if_neg e2] at h2
   have g1:=of_decide_eq_true h1
   have g2:=of_decide_eq_true h2
   rw [if_neg (by omega)]
   exact decide_eq_true (by omega)
theorem eA {bt:Nat→Nat→Bool}(irr:∀ i,bt i i=false)(tr:∀ i j k,bt i j=true→bt j k=true→bt i k=true):∀ k j,j≤k→bt j (argBest bt k)=false
 | 0,j,h=>by
  obtain rfl:j=0:=by omega
  exact irr 0
 | k+1,j,h=>by
  unfold argBest
  by_cases c:bt (k+1) (argBest bt k)=true
  ·rw [if_pos c]
   by_cases e:j=k+1
   ·subst e;exact irr _
   ·refine Bool.eq_false_iff.mpr fun q=>?_
    have:=eA irr tr k j (by omega)
    rw [tr _ _ _ q c] at this
    cases this
  ·rw [if_neg c]
   by_cases e:j=k+1
   ·subst e;simpa using c
   ·exact eA irr tr k j (by omega)
theorem tE:∀ {ns ms:List Int} {us vs:List Value},IntsAre us ns→IntsAre vs ms→jD (us.zip vs) (ns.zip ms)
 | [],_,_,_,h,_=>by cases h;exact .nil
 | _ :: _,[],_,_,h,g=>by cases g;cases h;exact .nil
 | n :: ns,m :: ms,_,_,h,g=>by
  cases h with
  | cons _ t h=>
   cases g with
   | cons _ u g=>exact .cons n m t u (tE h g)
theorem uQ {prog:Program}{w:World}{A:Around}{E:Value→Shared→Prop}{s:Shared}{a b:Addr}{us vs:List Value}{ns ms:List Int}{Q:Value→Shared→Prop}(hu:A.units<cLine)(ha:IsTup s.heap a us.toArray)(hb:IsTup s.heap b vs.toArray)(h1:IntsAre us ns)(h2:IntsAre vs ms)(q:Q (.bool (jW ns ms)) s) :
  wpAny (model prog w) A (richCompare .Lt (.ref a) (.ref b)) Q E s:=by
 obtain ⟨⟨oc,od,odt,osl⟩,e1,c1,n1,d1⟩:=ha
 obtain ⟨⟨pc,pd,pdt,psl⟩,e2,c2,n2,d2⟩:=hb
 subst c1 d1 c2 d2
 refine richCompare_meets_room (op := .Lt) ⟨_,e1,rfl⟩ ⟨_,e2,rfl⟩ F.slot_tuple_lt F.entry_tuple_lt (F.args_tuple_lt_2 _ _) (qA a b us.toArray vs.toArray n1 n2 od pd osl psl (ns.zip ms) (tE h1 h2)) ⟨e1,e2,?g⟩ hu
 case g=>
 have l1:=IntsAre.len h1
 have l2:=IntsAre.len h2
 rw [List.size_toArray,List.size_toArray,l1,l2,pX]
 exact ⟨fun z=>(by cases z),q⟩
noncomputable def tT (K:PySem.W.Frag):List V→Hp→VK→Prop:=fun vs H Q=>∃ (a:Addr) (xs:List V) (T:List (List Int)),vs=[.ref a]∧Sq K H a xs∧Rows K H xs T∧T≠[]∧∀ (i:Nat) (b:Addr) (row:List Int),xs[i]?=some (.ref b)→T[i]?=some row→SqT K H b (row.map V.int)→(∀ r∈T,jW r row=false)→Q (.ref b) H
theorem qW {X:Cx}{k:Nat}(hr:Room k X.A)(hc:X.calm=true):CallR X (.builtin "min") (tT X.K):=by
 intro pins s σ H vs us Q I r ⟨a,xs,T,e,hq,hR,hne,q⟩
 subst e
 obtain ⟨u,rfl,ru⟩:=r.one
 obtain rfl:u=Value.ref a:=ru
 refine nU (gI (I.ok.hd hc) I hq fun its It fp wr S s2 rv hz W st hf hI=>?g)
 case g=>
 have hl:its.length=T.length:=by rw [← rv.length,hR.1]
 have hpos:0<T.length:=List.length_pos_iff.mpr hne
 have item:∀ (i:Nat) (v:Value),its[i]?=some v→∃ b row,v = .ref b∧T[i]?=some row∧xs[i]?=some (.ref b)∧SqT X.K H b (row.map V.int):=fun i v hv=>by
  obtain ⟨x,hx,rx⟩:=rv.getR hv
  have hi:i<T.length:=by rw [← hR.1];exact (List.getElem?_eq_some_iff.mp hx).1
  obtain ⟨b,e1,e2⟩:=hR.2 i _ (List.getElem?_eq_getElem hi)
  rw [e1] at hx
  cases hx
  exact ⟨b,_,rx,List.getElem?_eq_getElem hi,e1,e2⟩
 refine ⟨It,fp,wr,its.length,_,S,fun i j=>jW (T.getD i []) (T.getD j []),fun h=>∀ b o,b∉wr→s2.heap.get? b=some o→h.get? b=some o,rfl,W,st,hf,by omega,fun b o _ e=>e,fun z hz0 h h' k1 k2 b o bw e=>k2 b o bw (fun q0=>Nat.not_lt.mpr hz0 (q0 ▸ Heap.lt_size e)) (k1 b o bw e),fun i j vi vj s' Q' E' kp hi hj hQ'=>?g,fun v h' tk hv hk=>?h⟩
 case g=>
  obtain ⟨b1,r1,rfl,t1,_,q1⟩:=item i vi hi
  obtain ⟨b2,r2,rfl,t2,_,q2⟩:=item j vj hj
  have I':=hI s'.heap s'.toks kp
  obtain ⟨us1,v1,p1,_⟩:=I'.tuple q1
  obtain ⟨us2,v2,p2,_⟩:=I'.tuple q2
  refine uQ (ns:=r1) (ms:=r2) (us:=us1) (vs:=us2) (by have:=hr.un;show X.A.units+1<cLine;omega) p1 p2 (iR v1) (iR v2) ?g
  case g=>
  have e1:T.getD i []=r1:=by rw [List.getD_eq_getElem?_getD,t1];rfl
  have e2:T.getD j []=r2:=by rw [List.getD_eq_getElem?_getD,t2];rfl
  have hQ2:Q' (Value.bool (jW (T.getD i []) (T.getD j []))) s':=hQ'
  rw [e1,e2] at hQ2
  exact hQ2
 case h=>
  obtain ⟨b,row,rfl,t1,e1,q1⟩:=item _ v hv
  refine ⟨.ref b,H,hI h' tk hk,rfl,q _ b row e1 t1 q1 fun r0 hr0=>?g⟩
  case g=>
  obtain ⟨j,hj,rfl⟩:=List.getElem_of_mem hr0
  have:=eA (bt:=fun i j=>jW (T.getD i []) (T.getD j [])) (fun i=>mV _) (fun i j k=>iT) (its.length - 1) j (by omega)
  have e1:T.getD j []=T[j]:=by rw [List.getD_eq_getElem?_getD,List.getElem?_eq_getElem hj];rfl
  have e2:T.getD (argBest (fun i j=>jW (T.getD i []) (T.getD j [])) (its.length - 1)) []=row:=by rw [List.getD_eq_getElem?_getD,t1];rfl
  have g:jW (T.getD j []) (T.getD (argBest (fun i j=>jW (T.getD i []) (T.getD j [])) (its.length - 1)) [])=false:=this
  rw [e1,e2] at g
  exact g
theorem oE {X:Cx}{K:PySem.W.Frag}{k:Nat}(hK:X.K=K)(hr:Room k X.A)(hc:X.calm=true):CallR X (.builtin "min") (tT K):=by subst hK;exact qW hr hc
noncomputable abbrev wN (K:PySem.W.Frag):List V→Hp→VK→Prop:=fun vs H Q=>zA K vs H Q∨tT K vs H Q
theorem oJ {X:Cx}{K:PySem.W.Frag}{k:Nat}(hK:X.K=K)(hr:Room k X.A)(hc:X.calm=true):CallR X (.builtin "min") (wN K):=by
 intro pins s σ H vs us Q I r h
 rcases h with h | h
 ·exact oU hK hc pins s σ H vs us Q I r h
 ·exact oE hK hr hc pins s σ H vs us Q I r h
noncomputable abbrev wE:List V→Hp→VK→Prop:=fun xs H Q=>(∃ i,xs=[.int i]∧Q (.int i) H)∨∃ k,xs=[.bl k]∧Q (.int (if k then 1 else 0)) H
theorem nS {X:Cx}:CallR X (.type "int") wE:=pM
end L2
namespace L2
open PySem PySem.Spec PyProof.Rows
section
variable {prog:Program}{w:World}{A:Around}{E:Value→Shared→Prop}{s:Shared}
end
section
variable {prog:Program}{w:World}{A:Around}{E:Value→Shared→Prop}{s:Shared}
end
end L2
namespace L2
open PySem PySem.Spec PyProof.Rows
end L2
namespace L2
open PySem
theorem qG {X:Cx}{K:PySem.W.Frag}{o:Expr}{to:TE}{name:Str}{apos cpos:Pos}{T id:String}{r:V→List V→Hp→VK→Prop}(hK:X.K=K)(pa:PlainAttrs T)(slot:Slot T name id)(hty:typeOf (.builtin id)=pure (.type "method_descriptor"))(hm:MtM X id r)(ho:PE X o to)
  (b1:attributeBase o name X.env (eval o X.env)=eval o X.env:=by rfl) (b2:(apos.endLine == cpos.line)=true:=by rfl) :
  PE X (.Call (.Attribute o name apos) [] [] cpos) (xQ K T r to):=by subst hK;exact vT pa slot hty hm ho b1 b2
end L2
namespace L2
open PySem PySem.Spec PyProof.Rows
section
variable {prog:Program}{w:World}{A:Around}{E:Value→Shared→Prop}{s:Shared}
end
section
variable {X:Cx}
end
end L2
namespace L2
open PySem
section
variable {X:Cx}
end
end L2
namespace L2
open PySem PySem.Spec PyProof.Rows
section
variable {prog:Program}{w:World}{A:Around}{E:Value→Shared→Prop}{s:Shared}
end
end L2
namespace L2
open PySem PySem.Spec PyProof.Rows
section
variable {X:Cx}
end
end L2
namespace L2
open PySem PySem.Spec PyProof.Rows
section
variable {X:Cx}
end
end L2
namespace L2
open PySem
structure zR (mg:Str→Option Value):Prop extends zV mg where
 set:mg "set" = none
section
variable {X:Cx}
end
end L2
namespace L2
open PySem
structure mB (mg:Str→Option Value):Prop extends zR mg where
 abs:mg "abs" = none
end L2
namespace L2
open PySem
section
variable {vars:List Nat}{tb:TS}{acc a:Addr}{σ:St}{H:Hp}{j:Nat}{D:kA}{K:PySem.W.Frag}
theorem nV {lo:Int}{n:Nat}(p:Addr)(R:Nat→List V→Hp→Prop)(hj:j∈vars)(hjl:j<σ.length)(h0:R 0 [] (upd H acc (.lst [])))(ha:H acc=none)
  (h:∀ i σ' H' L (D:kA),i<n→σ'.length=σ.length→Agree vars σ σ'→σ'[j]?=some (some (.int (lo+(i:Int))))→SameX p H H'→H' acc=some (.lst L)→R i L H' →
   (∀ σ'' H'' L',σ''.length=σ.length→Agree vars σ σ''→SameX p H H''→H'' acc=some (.lst L')→R (i+1) L' H''→D.nx σ'' H'')→tb D σ' H')
  (q:∀ σ' H' L,SameX p H H'→H' acc=some (.lst L)→R n L H'→D.nx σ' H'):iK (Itr lo n) (aO j) tb D σ (upd H acc (.lst [])):=by
 refine cP (lo:=lo) (n:=n) (g:=aO j) (D:=D) (fun i σ' H'=>i≤n∧σ'.length=σ.length∧Agree vars σ σ'∧SameX p H H'∧∃ L,H' acc=some (.lst L)∧R i L H') ⟨Nat.zero_le _,rfl,Agree.refl _ _,(aP ha _).x,[],aE,h0⟩ (fun i σ1 H1 hi ⟨_,hl1,ag1,sx1,L,h1,r1⟩=>?_) fun σ1 H1 ⟨_,_,_,sm,L,h1,r1⟩=>q σ1 H1 L sm h1 r1
 exact h i (σ1.set j (some (.int (lo+(i:Int))))) H1 L _ hi (by rw [List.length_set];exact hl1) (ag1.trans (Agree.set hj _)) (kX (by omega)) sx1 h1 r1 fun σ2 H2 L' hl2 ag2 sm2 h2 r2=>⟨hi,hl2,ag2,sm2,L',h2,r2⟩
end
section
variable {K:PySem.W.Frag}{vars:List Nat}{tb:TS}{acc:Addr}{σ:St}{H:Hp}
end
end L2
namespace L2
open PySem PySem.Spec PyProof.Rows
open PySem.SeqAt
end L2
namespace L2
open PySem PySem.Spec PyProof.Rows
section
variable {X:Cx}{tg:Expr}
end
end L2
namespace L2
open PySem PySem.Spec PyProof.Rows
section
variable {X:Cx}{pins:List (Addr × Obj)}{σ:St}{H:Hp}{s:Shared}
end
theorem KV.at {κ:Type}:∀ {l:List (κ × V)} {m:List (κ × Value)},KV l m→∀ {i:Nat} {k:κ} {x:Value},m[i]?=some (k,x)→∃ v,l[i]?=some (k,v)
 | _,_, .nil,_,_,_,h=>by cases h
 | _,_, .cons (a:=p) (b:=q) r t,0,k,x,h=>by
  have e:q=(k,x):=by simpa using h
  exact ⟨p.2,by rw [List.getElem?_cons_zero,show p=(k,p.2) from Prod.ext (by rw [r.1,e]) rfl]⟩
 | _,_, .cons _ t,i+1,k,x,h=>KV.at t (i:=i) (by simpa using h)
end L2
namespace L2
open PySem PySem.Spec PyProof.Rows
section
open Builtin Builtin.ObjectAttr Builtin.Getset_descriptor
variable {prog:Program}{w:World}{A:Around}{E:Value→Shared→Prop}{s:Shared}{K:PySem.W.Frag}{x C:Addr}{R:Result→Shared→Prop}
end
section
variable {X:Cx}
end
section
variable {X:Cx}{x:Str}{np cpos pos p:Pos}{C:Addr}{E:XK}{m:Str}{j:Nat}
end
section
variable {X:Cx}{pins:List (Addr × Obj)}{σ:St}{H:Hp}{s:Shared}{E:XK}{a:Addr}{cls a0:Value}{B h2:Heap}
end
section
variable {P:Program}{w:World}{K:PySem.W.Frag}{mg:Str→Option Value}{base:Heap}{N:List Str}{qual:Str}{scope:Scope}{f:Addr}{cd:Value}{A:Around}{outer:List Env}{s₀:Shared}{H₀:Hp}{E:XK}
end
end L2
namespace L2
open PySem PySem.Spec PyProof.Rows
section
variable {X:Cx}{pins:List (Addr × Obj)}{σ:St}{H:Hp}{s:Shared}
end
section
variable {X:Cx}{pins pn pins':List (Addr × Obj)}{σ:St}{H H':Hp}{s s':Shared}{W:Value→Shared→Prop}{a C:Addr}{cls a0:Value}{B h2:Heap}
end
section
variable {X:Cx}{x n:Str}{np pos hpos:Pos}{C0:Addr}{ie ln:Nat}{tb:XK→TS}{th:TS}{body suite:List Stmt}{b₀:Stmt}
end
end L2
namespace L2
open PySem PySem.Spec PyProof.Rows
section
variable {X:Cx}{st:Stmt}{t:TS}{x:Str}{np pos hpos cpos p:Pos}{C C0:Addr}{E:XK}{m:Str}{j:Nat}{K:PySem.W.Frag}
end
section
variable {P:Program}{w:World}{K:PySem.W.Frag}{mg:Str→Option Value}{base:Heap}
end
end L2
namespace L2
open PySem
section
variable {X:Cx}
end
end L2
namespace L2
open PySem
end L2
namespace L2
open PySem
section
variable {P:Program}{w:World}
noncomputable def IsPairKey (P:Program) (w:World) (h:Heap) (k:List Int × Int) (a:Addr):Prop:=∃ o n b t,h.get? a=some o∧o.cls = .type "tuple"∧o.data = .seq #[.ref b, .int k.2 t] n∧IsTupleKey (intKind P w) h k.1 b
theorem IsPairKey.typeIs {s:Shared}{k:List Int × Int}{a:Addr}(x:IsPairKey P w s.heap k a):s.TypeIs (.ref a) "tuple":=let ⟨o,_,_,_,ho,hc,_⟩:=x;⟨o,ho,hc⟩
theorem IsPairKey.inj {h:Heap}{a:Addr}{x y:List Int × Int}(hx:IsPairKey P w h x a)(hy:IsPairKey P w h y a):x=y:=by
 obtain ⟨o,n,b,t,ho,_,hd,hi⟩:=hx
 obtain ⟨o',n',b',t',ho',_,hd',hi'⟩:=hy
 obtain rfl:o=o':=Option.some.inj (ho.symm.trans ho')
 rw [hd] at hd'
 injection hd' with h1 _
 have h2:[Value.ref b, .int x.2 t]=[.ref b', .int y.2 t']:=congrArg Array.toList h1
 injection h2 with h3 h4
 injection h4 with h5 _
 injection h3 with h3
 injection h5 with h5 _
 subst h3
 exact Prod.ext (hi.inj hi') h5
theorem IsPairKey.keeps {h h':Heap}{k:List Int × Int}{a d:Addr}{o:Obj}{es ep}(x:IsPairKey P w h k a)(ho:h.get? d=some o)(hd:o.data = .dict es ep)(hs:Heap.SameBut d h h'):IsPairKey P w h' k a:=by
 obtain ⟨o',n,b,t,ho',hc,hd',hi⟩:=x
 have hne:a≠d:=by
  rintro rfl
  obtain rfl:o'=o:=Option.some.inj (ho'.symm.trans ho)
  rw [hd] at hd';exact nomatch hd'
 exact ⟨o',n,b,t,(hs.2 a hne).trans ho',hc,hd',hi.keeps ho hd hs⟩
noncomputable def jI (P:Program) (w:World) (k:List Int × Int):Int:=reduceHash (Builtin.Tuple.tupleHashOf [tupleKeyHash (intKind P w) k.1,(intKind P w).hash k.2])
variable {A:Around}{E:Value→Shared→Prop}{s:Shared}
theorem mR {k:List Int × Int}{a:Addr}{Q:Int→Shared→Prop}(hu:A.units+5<cLine)(hk:IsPairKey P w s.heap k a)(h:Q (jI P w k) { s with toks:=s.toks+(k.1.length+3) }) :
  wpAny (model P w) A (pyHash (.ref a)) Q E s:=by
 have hT:=hk.typeIs
 obtain ⟨o,n,b,t,ho,_,hd,hi⟩:=hk
 unfold pyHash
 first | unfold pyHashByItsType | skip
 first | refine wpAny_bind (wpAny_cRoomFor_or (.inr (by omega)) ?_) | skip
 refine wpAny_bind (wpAny_specialOf hT F.slot_tuple_hash.lookup ?_)
 show wpAny _ _ (if (some (Value.builtin "tuple.__hash__") == some Value.none)=true then _ else _) Q E s
 rw [if_neg (by rw [beq_builtin_none];exact Bool.false_ne_true)]
 refine wpAny_bind (wpAny_specialOf hT F.slot_tuple_hash.lookup ?_)
 show wpAny _ _ (callSpecialIfBoundUnlessNone? (.ref a) "__hash__" _ >>= _) Q E s
 refine wpAny_bind (wpAny_callSpecialIfBoundUnlessNone?_slot hT F.slot_tuple_hash (wpAny_call_entry F.slot_tuple_hash hT F.entry_tuple_hash ?_ (F.args_tuple_hash_1 _)))
 show wpAny _ _ (Builtin.Tuple.tupleItemsOf (.ref a) >>= _) _ _ s
 refine wpAny_bind (wpAny_tupleItemsOf ho hd ?_)
 refine wpAny_bind ?_
 rw [← Array.forIn_toList]
 show wpAny _ _ (forIn [Value.ref b,Value.int k.2 t] #[] _) _ _ s
 rw [List.forIn_cons]
 refine wpAny_bind (wpAny_bind (wpAny_pyHash_tuple (knd:=intKind P w) (show A.units+1<cLine by omega) hi (wpAny_pure ?_)))
 show wpAny _ _ (forIn [Value.int k.2 t] #[tupleKeyHash (intKind P w) k.1] _) _ _ _
 rw [List.forIn_cons]
 refine wpAny_bind (wpAny_bind ((intKind P w).pyHash (k:=k.2) (v := .int k.2 t) (by show Value.isInt k.2 (.int k.2 t)=true;unfold Value.isInt;exact beq_self_eq_true _) (wpAny_pure ?_)))
 show wpAny _ _ (forIn [] #[tupleKeyHash (intKind P w) k.1,(intKind P w).hash k.2] _) _ _ _
 rw [List.forIn_nil]
 refine wpAny_pure ?_
 show wpAny _ _ (retInt (Builtin.Tuple.tupleHashOf [tupleKeyHash (intKind P w) k.1,(intKind P w).hash k.2])) _ _ _
 refine wpAny_ret_mkInt ?_
 show wpAny _ _ (if (decide (-(2:Int) ^ 63≤Builtin.Tuple.tupleHashOf [tupleKeyHash (intKind P w) k.1,(intKind P w).hash k.2]) && decide (Builtin.Tuple.tupleHashOf [tupleKeyHash (intKind P w) k.1,(intKind P w).hash k.2]<2 ^ 63))=true then _ else _) Q E _
 unfold jI reduceHash at h
 by_cases hr:(decide (-(2:Int) ^ 63≤Builtin.Tuple.tupleHashOf [tupleKeyHash (intKind P w) k.1,(intKind P w).hash k.2]) && decide (Builtin.Tuple.tupleHashOf [tupleKeyHash (intKind P w) k.1,(intKind P w).hash k.2]<2 ^ 63))=true
 ·rw [if_pos hr]
  rw [if_pos hr] at h
  exact wpAny_pure (by simpa [Nat.add_assoc] using h)
 ·rw [if_neg hr]
  rw [if_neg hr] at h
  exact wpAny_bind (wpAny_rule (wpAny_pure (by simpa [Nat.add_assoc] using h)))
theorem kP {x y:List Int × Int}{a b:Addr}{Pd:Fin→Shared→Prop}(hu:A.units<cLine)(hx:IsPairKey P w s.heap x a)(hy:IsPairKey P w s.heap y b)(h:Pd (.done (.ret (.bool (decide (x=y))))) s) :
  wpAny (model P w) A (Builtin.«tuple.__eq__» ⟨[.ref a, .ref b],[]⟩) Pd E s:=by
 have hTb:=hy.typeIs
 obtain ⟨oa,na,ia,ta,hoa,_,hda,hia⟩:=hx
 obtain ⟨ob,nb,ib,tb,hob,_,hdb,hib⟩:=hy
 show wpAny _ _ (isInstance (.ref b) (.type "tuple") >>= _) _ _ s
 refine wpAny_bind (wpAny_isInstance hTb isSubtype_tuple_tuple ?_)
 simp only [Bool.not_true,Bool.false_eq_true,if_false]
 refine wpAny_bind (wpAny_tupleItemsOf hoa hda ?_)
 refine wpAny_bind (wpAny_tupleItemsOf hob hdb ?_)
 refine wpAny_bind ?_
 show wpAny _ _ (forIn [(Value.ref ia,Value.ref ib),(Value.int x.2 ta,Value.int y.2 tb)] _ _) _ _ s
 rw [List.forIn_cons]
 refine wpAny_bind (wpAny_bind (wpAny_eqBool_tuple (knd:=intKind P w) hu hia hib ?_))
 by_cases h1:x.1=y.1
 ·rw [decide_eq_true h1]
  simp only [Bool.not_true,Bool.false_eq_true,if_false]
  refine wpAny_pure ?_
  show wpAny _ _ (forIn [(Value.int x.2 ta,Value.int y.2 tb)] _ _) _ _ s
  rw [List.forIn_cons]
  refine wpAny_bind (wpAny_bind (wpAny_eqBool_int ?_))
  by_cases h2:x.2=y.2
  ·rw [show (x.2 == y.2)=true by rw [h2];exact beq_self_eq_true _]
   simp only [Bool.not_true,Bool.false_eq_true,if_false]
   refine wpAny_pure ?_
   show wpAny _ _ (forIn [] _ _) _ _ s
   rw [List.forIn_nil]
   refine wpAny_pure (wpAny_pure ?_)
   have e:decide (x=y)=true:=decide_eq_true (Prod.ext h1 h2)
   rw [e] at h
   exact h
  ·rw [show (x.2 == y.2)=false by exact beq_false_of_ne h2]
   simp only [Bool.not_false,if_true]
   have e:decide (x=y)=false:=decide_eq_false fun z=>h2 (congrArg Prod.snd z)
   rw [e] at h
   exact wpAny_bind (wpAny_pure (wpAny_pure (wpAny_pure (wpAny_pure h))))
 ·rw [decide_eq_false h1]
  simp only [Bool.not_false,if_true]
  have e:decide (x=y)=false:=decide_eq_false fun z=>h1 (congrArg Prod.fst z)
  rw [e] at h
  exact wpAny_bind (wpAny_pure (wpAny_pure (wpAny_pure (wpAny_pure h))))
theorem mL {x y:List Int × Int}{a b:Addr}{Q:Bool→Shared→Prop}(hu:A.units+5<cLine)(hx:IsPairKey P w s.heap x a)(hy:IsPairKey P w s.heap y b)(h:Q (decide (x=y)) s) :
  wpAny (model P w) A (eqBool (.ref a) (.ref b)) Q E s:=by
 unfold eqBool
 try with_reducible refine wpAny_holding ?_
 show wpAny _ _ (if (Value.ref a == Value.ref b)=true then _ else _) Q E s
 by_cases hab:(Value.ref a == Value.ref b)=true
 ·rw [if_pos hab]
  have e:a=b:=by have:=eq_of_beq hab;injection this
  subst e
  obtain rfl:=hx.inj hy
  exact wpAny_bind (wpAny_rule (wpAny_pure (by simpa using h)))
 ·rw [if_neg hab]
  exact wpAny_bind (wpAny_richCompare_same_room (op := .Eq) hx.typeIs hy.typeIs F.slot_tuple_eq
   (wpAny_call_entry F.slot_tuple_eq hx.typeIs F.entry_tuple_eq (kP (show A.units+1<cLine by omega) hx hy ⟨_,rfl,(fun e=>nomatch e),wpAny_truthy_bool h⟩) (F.args_tuple_eq_2 _ _)) (by omega))
theorem rD {ks:List Int}{a:Addr}{m:Nat}{Q:Bool→Shared→Prop}(hk:IsTupleKey (intKind P w) s.heap ks a)(h:Q true s):wpAny (model P w) A (eqIsQuiet (m+1) (.ref a)) Q E s:=by
 have hT:=hk.typeIs
 obtain ⟨o,items,n,ho,_,hd,hi⟩:=hk
 unfold eqIsQuiet
 refine wpAny_bind (wpAny_specialOf hT F.slot_tuple_eq.lookup ?_)
 show wpAny _ _ (isInstance (.ref a) (.type "tuple") >>= _) _ _ s
 refine wpAny_bind (wpAny_isInstance hT isSubtype_tuple_tuple ?_)
 simp only [Bool.not_true,Bool.false_eq_true,if_false]
 refine wpAny_bind (wpAny_seqItems ho hd ?_)
 refine wpAny_bind ?_
 show wpAny _ _ (forIn items _ _) _ _ s
 rw [← Array.forIn_toList]
 refine wpAny_forIn_list _ (fun rest r s'=>r.1=none∧s'=s∧∀ v∈rest,carriedByValue v=true) _ ?_ ?_ _ _ ⟨rfl,rfl,hi.byValue⟩
 ·rintro v rest r s' ⟨hr,rfl,hall⟩
  rw [eqIsQuiet_byValue _ (hall v List.mem_cons_self)]
  refine wpAny_bind (wpAny_pure ?_)
  simp only [Bool.not_true,Bool.false_eq_true,if_false]
  exact wpAny_pure ⟨rfl,rfl,fun u hu'=>hall u (List.mem_cons_of_mem _ hu')⟩
 ·rintro ⟨r1,r2⟩ s' ⟨hr,rfl,_⟩
  simp only at hr
  subst hr
  exact wpAny_pure h
theorem oA {k:List Int × Int}{a:Addr}{Q:Bool→Shared→Prop}(hk:IsPairKey P w s.heap k a)(h:Q true s):wpAny (model P w) A (eqIsQuiet 8 (.ref a)) Q E s:=by
 have hT:=hk.typeIs
 obtain ⟨o,n,b,t,ho,_,hd,hi⟩:=hk
 unfold eqIsQuiet
 refine wpAny_bind (wpAny_specialOf hT F.slot_tuple_eq.lookup ?_)
 show wpAny _ _ (isInstance (.ref a) (.type "tuple") >>= _) _ _ s
 refine wpAny_bind (wpAny_isInstance hT isSubtype_tuple_tuple ?_)
 simp only [Bool.not_true,Bool.false_eq_true,if_false]
 refine wpAny_bind (wpAny_seqItems ho hd ?_)
 refine wpAny_bind ?_
 show wpAny _ _ (forIn #[Value.ref b,Value.int k.2 t] _ _) _ _ s
 rw [← Array.forIn_toList]
 show wpAny _ _ (forIn [Value.ref b,Value.int k.2 t] _ _) _ _ s
 rw [List.forIn_cons]
 refine wpAny_bind (wpAny_bind (rD hi ?_))
 simp only [Bool.not_true,Bool.false_eq_true,if_false]
 refine wpAny_pure ?_
 show wpAny _ _ (forIn [Value.int k.2 t] _ _) _ _ s
 rw [List.forIn_cons,eqIsQuiet_byValue _ (v:=Value.int k.2 t) rfl]
 refine wpAny_bind (wpAny_bind (wpAny_pure ?_))
 simp only [Bool.not_true,Bool.false_eq_true,if_false]
 refine wpAny_pure ?_
 show wpAny _ _ (forIn [] _ _) _ _ s
 rw [List.forIn_nil]
 exact wpAny_pure (wpAny_pure h)
noncomputable def kD (P:Program) (w:World):HeapKind P w (List Int × Int) where
 is:=IsPairKey P w
 hash:=jI P w
 draws:=fun k=>k.1.length+3
 room:=fun A=>A.units+5<cLine
 inj:=fun hx hy=>hx.inj hy
 keeps:=fun x ho hd hs=>x.keeps ho hd hs
 pyHash:=fun hu hk h=>mR hu hk h
 eqBool:=fun hu hx hy h=>mL hu hx hy h
 quiet:=fun hk h=>oA hk h
end
end L2
namespace L2
open PySem
noncomputable abbrev PKy:=List Int × Int
noncomputable abbrev PEs:=List (PKy × Addr × V)
noncomputable def xW (k:PKy):Int:=reduceHash (Builtin.Tuple.tupleHashOf [reduceHash (Builtin.Tuple.tupleHashOf (k.1.map hashInt)),hashInt k.2])
noncomputable abbrev yG (p:PKy × Addr × V) (q:PKy × Addr × Value):Prop:=p.1=q.1∧p.2.1=q.2.1∧RelV p.2.2 q.2.2
noncomputable def dpP (a:Addr) (xs:PEs) (ep:Nat) (h:Heap):Prop:=xs.length≤sizeLine∧(a == sysModules)=false∧∃ ys:List (PKy × Addr × Value),Paired yG xs ys ∧
 ∃ o es,h.get? a=some o∧o.ExactDict∧o.data = .dict es ep∧es.toList=ys.map (fun y=>(⟨xW y.1, .ref y.2.1,y.2.2⟩:DictEntry))∧(ys.map (·.1)).Nodup
noncomputable def dpO (a:Addr) (xs:PEs) (ep:Nat):HO := .ext (dpP a xs ep)
noncomputable def KeyP (H:Hp) (k:PKy) (c:Addr):Prop:=∃ b,H c=some (.tup [.ref b, .int k.2])∧H b=some (.tup (k.1.map V.int))
noncomputable def DP (H:Hp) (a:Addr) (xs:PEs) (ep:Nat):Prop:=H a=some (dpO a xs ep)∧∀ x∈xs,KeyP H x.1 x.2.1
section
variable {P:Program}{w:World}{H:Hp}{h:Heap}{a c:Addr}{k:PKy}{xs:PEs}
theorem iQ:∀ {ns:List Int} {its:List Value},Vals (ns.map V.int) its→ItemsAre (intKind P w) ns its
 | [],_, .nil => .nil
 | n :: ns,_, .cons r t=>by
  obtain ⟨tk,rfl⟩:=r
  exact .cons (by show Value.isInt n (.int n tk)=true;unfold Value.isInt;exact beq_self_eq_true _) (iQ t)
theorem KeyP.is (ok:HOk P w H h)(e:KeyP H k c):(kD P w).is h k c:=by
 obtain ⟨b,e1,e2⟩:=e
 obtain ⟨_,its,r,o,h1,h2,⟨n,h3⟩,_⟩:=(show ObjOk P w H h c (.tup [.ref b, .int k.2]) from ok c _ e1)
 obtain ⟨_,its',r',o',h1',h2',⟨n',h3'⟩,_⟩:=(show ObjOk P w H h b (.tup (k.1.map V.int)) from ok b _ e2)
 obtain ⟨u,v,rfl,ru,rv⟩:=r.two
 obtain rfl:u=Value.ref b:=ru
 obtain ⟨t,rfl⟩:=rv
 exact ⟨o,n,b,t,h1,h2,h3,o',its'.toArray,n',h1',h2',h3',by simpa using iQ r'⟩
theorem DP.of {ep:Nat}(ok:HOk P w H h)(e:DP H a xs ep):xs.length≤sizeLine∧(a == sysModules)=false∧∃ ys,Paired yG xs ys∧h.DictOfH (kD P w) a ys:=by
 obtain ⟨z,y,ys,r,o,es,h1,h2,h3,h4,h5⟩:=(show dpP a xs ep h from (ok a _ e.1).1)
 refine ⟨z,y,ys,r,o,es,ep,h1,h2,h3,h4,?_,h5⟩
 have all:∀ {l:PEs} {m:List (PKy × Addr × Value)},Paired yG l m→(∀ x∈l,KeyP H x.1 x.2.1)→∀ x∈m,(kD P w).is h x.1 x.2.1:=by
  intro l m q
  induction q with
  | nil=>intro _ x hx;exact nomatch hx
  | @cons p q ps qs hq t ih=>
   intro hk x hx
   rcases List.mem_cons.mp hx with e | hx
   ·subst e
    have:=hk p (List.mem_cons_self ..)
    rw [hq.1,hq.2.1] at this
    exact this.is ok
   ·exact ih (fun x hx=>hk x (List.mem_cons_of_mem _ hx)) x hx
 exact all r e.2
end
noncomputable def zQ (K:PySem.W.Frag) (H:Hp) (k:PKy) (c:Addr):Prop:=∃ b,SqT K H c [.ref b, .int k.2]∧SqT K H b (k.1.map V.int)
theorem KeyP.q {K:PySem.W.Frag}{H:Hp}{k:PKy}{c:Addr}(e:KeyP H k c):zQ K H k c:=let ⟨b,h1,h2⟩:=e;⟨b, .of h1, .of h2⟩
section
variable {X:Cx}{o i value:Expr}{pos pos':Pos}{td ty tv:TE}
end
end L2
namespace L2
open PySem PySem.Spec PyProof.Rows
section
variable {prog:Program}{w:World}{A:Around}{E:Value→Shared→Prop}{s:Shared}{d:Addr}{o:Obj}{es:Array DictEntry}{ep:Nat}
end
end L2
namespace L2
open PySem PySem.Spec PyProof.Rows
end L2
namespace L2
open PySem
theorem uV {H H':Hp}{p:Addr}{o:HO}(h:H p=none)(s:Same H H'):Same H (upd H' p o):=fun b u e=>by rw [aJ (aI e h)];exact s _ _ e
noncomputable def tH (n:Nat) (f:Nat→Nat→Int):List (List Int):=(List.range n).map fun i=>(List.range n).map fun j=>f i j
theorem qK {n:Nat}{f:Nat→Nat→Int}:Quad (tH n f) n:=⟨by unfold tH;rw [List.length_map,List.length_range],fun r hr=>by
 obtain ⟨i,hi,rfl⟩:=List.mem_map.mp hr
 rw [List.length_map,List.length_range]⟩
theorem vB {n i j:Nat}{f:Nat→Nat→Int}(hi:i<n)(hj:j<n):at2 (tH n f) i j=f i j:=by
 have e:(tH n f).getD i []=(List.range n).map fun j=>f i j:=by
  unfold tH
  rw [List.getD_eq_getElem?_getD,List.getElem?_map,List.getElem?_range hi];rfl
 show ((tH n f).getD i []).getD j 0=_
 rw [e,List.getD_eq_getElem?_getD,List.getElem?_map,List.getElem?_range hj];rfl
section
variable {K:PySem.W.Frag}
end
end L2
namespace L2
open PySem
open PySem.SeqAt
section
variable {X:Cx}
end
end L2
namespace L2
open PySem PySem.W PyProof.Rows
section
variable (r:Nat→Int)
variable {r}
end
end L2
namespace L2
open PySem PySem.W PyProof.Rows
section
variable {N:Nat}
end
end L2
namespace L2
open PySem PySem.W PyProof.Rows
section
variable {prog:Program}{w:World}{A:Around}{E:Value→Shared→Prop}{s:Shared}
end
end L2
namespace L2
open PySem PySem.W PyProof.Rows
section
variable {prog:Program}{w:World}{A:Around}{E:Value→Shared→Prop}{s:Shared}
end
end L2
namespace L2
open PySem PyProof.Rows
section
variable {X:Cx}
end
end L2
namespace L2
open PySem PyProof.Rows
section
variable {X:Cx}
end
end L2
namespace L2
open PySem PySem.Spec PyProof.Rows
section
variable {prog:Program}{w:World}{A:Around}{E:Value→Shared→Prop}{s:Shared}{d:Addr}{o:Obj}{es:Array DictEntry}{ep:Nat}
end
end L2
namespace L2
open PySem PySem.Spec PyProof.Rows
end L2
namespace L2
open PySem PySem.Spec PyProof.Rows
section
variable {prog:Program}{w:World}{K:Type}[DecidableEq K]{knd:HeapKind prog w K}{A:Around}{E:Value→Shared→Prop}{s:Shared}{d a:Addr}{xs:List (K × Addr × Value)}{k:K}
end
end L2
namespace L2
open PySem PySem.Spec PyProof.Rows
section
variable {X:Cx}{pins:List (Addr × Obj)}{σ:St}{H:Hp}{s:Shared}{A:Around}{E:Value→Shared→Prop}{a b:Addr}{kvs:List (List Key × V)}{k:List Key}
end
section
variable {X:Cx}{o e f:Expr}{td ty tx:TE}{apos cpos:Pos}
end
end L2
namespace L2
open PySem PySem.Spec PyProof.Rows
end L2
namespace L2
open PySem PySem.Spec PyProof.Rows
section
variable {prog:Program}{w:World}{A:Around}{E:Value→Shared→Prop}{s:Shared}{d:Addr}{o:Obj}{es:Array DictEntry}{ep:Nat}
end
end L2
namespace L2
open PySem PySem.Spec PyProof.Rows
section
variable {prog:Program}{w:World}{A:Around}{E:Value→Shared→Prop}{s:Shared}
end
section
variable {X:Cx}{o i value:Expr}{pos pos':Pos}{td ty tv:TE}
end
end L2
namespace L2
open PySem PySem.Spec PyProof.Rows
end L2
namespace L2
open PySem PySem.Spec PyProof.Rows
section
variable {X:Cx}
noncomputable def CMulG (i j:Int):Prop:=i.natAbs<2 ^ 8000∧j.natAbs<2 ^ 8000
theorem qN {k:Int}(h:k.natAbs<2 ^ 8000):Builtin.Int.intBits k≤8000:=by
 unfold Builtin.Int.intBits
 split
 ·exact Nat.zero_le _
 ·rename_i c
  have hk:k.natAbs≠0:=fun e=>c (by simp [Int.natAbs_eq_zero.mp e])
  have:=(Nat.log2_lt hk).mpr h
  omega
theorem CMulG.ok {i j:Int}(h:CMulG i j):IntMulOk i j:=by
 unfold IntMulOk Builtin.Int.intTooBig
 have h1:=qN h.1
 have h2:=qN h.2
 have:¬ (((Builtin.Int.intBits i+Builtin.Int.intBits j:Nat):Int) > (bitsLine:Int)):=by
  have:(16000:Int)≤(bitsLine:Int):=by decide
  omega
 intro e
 rw [Bool.and_eq_true] at e
 have:=of_decide_eq_true e.2
 omega
end
end L2
namespace L2
open PySem PySem.Spec PyProof.Rows
end L2
namespace L2
open PySem PySem.Spec PyProof.Rows
section
variable {prog:Program}{w:World}{A:Around}{E:Value→Shared→Prop}{s:Shared}
end
end L2
namespace L2
open PySem PySem.Spec PyProof.Rows
section
variable {prog:Program}{w:World}{A:Around}{R:Result→Shared→Prop}{I:Addr}{fp wr:List Addr}{G:Array GenState→Array GenState→Prop}{n:Nat}{P:Nat→Value→Prop}{St:Nat→Shared→Prop}
end
section
variable {prog:Program}{w:World}{A:Around}{E:Value→Shared→Prop}{s:Shared}
end
end L2
namespace L2
open PySem PySem.Spec PyProof.Rows
noncomputable def SIt (it a:Addr) (slot i n ep:Nat) (h:Heap):Prop:=∃ o,h.get? it=some o∧o.cls = .type "set_iterator"∧o.data = .fields #[rawInt slot,rawInt i, .ref a,rawInt n,rawInt ep]
section
variable {prog:Program}{w:World}{A:Around}{E:Value→Shared→Prop}{s:Shared}{a:Addr}{es:Array (Int × Value)}{ep:Nat}{ks:List Nat}
theorem SIt.typeIs {it:Addr}{slot i n:Nat}(x:SIt it a slot i n ep s.heap):s.TypeIs (.ref it) "set_iterator":=let ⟨o,h1,h2,_⟩:=x;⟨o,h1,h2⟩
end
end L2
namespace L2
open PySem PySem.Spec PySem.W PyProof.Rows
section
variable {prog:Program}{w:World}{A:Around}{E:Value→Shared→Prop}{s:Shared}{a:Addr}{es:Array (Int × Value)}{ep:Nat}{ks:List Nat}
theorem SIt.at {h h':Heap}{it:Addr}{sl i n:Nat}(x:SIt it a sl i n ep h)(e:∀ o,h.get? it=some o→h'.get? it=some o):SIt it a sl i n ep h':=let ⟨o,ho,r⟩:=x;⟨o,e _ ho,r⟩
end
section
variable {X:Cx}
end
end L2
namespace L2
open PySem PySem.Spec PyProof.Rows
theorem DP.at {X:Cx}{pins:List (Addr × Obj)}{σ:St}{H:Hp}{s:Shared}{a:Addr}{xs:PEs}{ep:Nat}(I:Inv X pins σ H s)(d:DP H a xs ep) :
  s.TypeIs (.ref a) "dict"∧(∀ b,Value.ref a = .ref b→∃ ob,s.heap.get? b=some ob∧ob.dict=none)∧(a == sysModules)=false:=by
 obtain ⟨_,hd,ys,_,dd⟩:=d.of I.hok
 refine ⟨dd.typeIs,fun b q=>?_,hd⟩
 cases q
 obtain ⟨ob,_,_,h1,h2,_⟩:=dd
 exact ⟨ob,h1,h2.2.1⟩
section
variable {X:Cx}{o e f:Expr}{apos cpos:Pos}{td ty tx:TE}
end
end L2
namespace L2
open PySem PySem.Spec PyProof.Rows
section
variable {X:Cx}
end
end L2
namespace L2
open PySem PySem.Spec PyProof.Rows
open PySem.SeqAt PySem.MeetsSeq3
section
variable {A:Around}{s:Shared}{l b:Addr}{us vs:List Value}{R S:List (List Int)}
end
end L2
namespace L2
open PySem PySem.Spec PyProof.Rows
open PySem.SeqAt PySem.MeetsSeq
open AutoSeq1 (wpAny_loadPart')
section
variable {X:Cx}
end
end L2
namespace L2
open PySem
section
variable {X:Cx}
end
end L2
namespace L2
open PySem PySem.Spec PyProof.Rows
section
variable {X:Cx}
noncomputable def dF (i:Int):Str:=Str.ofString (toString i)
theorem lW:bootBuiltins "str" = some (.type "str"):=by decide +kernel
noncomputable def qI:List V→Hp→VK→Prop:=fun vs H Q=>∃ i:Int,vs=[.int i]∧i.natAbs<10 ^ 40∧Q (.str (dF i)) H
theorem eE:CallR X (.type "str") qI:=by
 intro pins s σ H xs us Q I r ⟨i,e,hi,q⟩
 subst e
 obtain ⟨u,rfl,t,rfl⟩:=iO r
 refine P.str_of_int ?_ ⟨.str (dF i),H,I.tok _,⟨_,rfl⟩,q⟩
 by_cases h0:i.natAbs=0
 ·rw [h0];decide
 ·exact (Nat.log2_lt h0).mpr (Nat.lt_trans hi sX)
noncomputable def vC:List V→Hp→VK→Prop:=fun vs H Q=>∃ (x:Str) (n:Int),vs=[.str x]∧PySem.intText? x=some n∧x.length≤640∧Q (.int n) H
theorem lF:CallR X (.type "int") vC:=by
 intro pins s σ H xs us Q I r ⟨x,n,e,hn,hl,q⟩
 subst e
 obtain ⟨u,rfl,t,rfl⟩:=iO r
 exact PySem.W.KIN.call_text hn hl ⟨.int n,H,I.tok _,⟨_,rfl⟩,q⟩
noncomputable def uF:List V→Hp→VK→Prop:=fun xs H Q=>∃ z:Str,xs=[.str z]∧z.length≤sizeLine∧Q (.int z.length) H
theorem lQ:CallR X (.builtin "len") uF:=lL
noncomputable def yY:V→List V→Hp→VK→Prop:=fun x vs H Q=>∃ y:Str,x = .str y∧vs=[]∧Q (.bl (Txt.isascii y)) H
theorem xF:MtM X "str.isascii" yY:=by
 intro pins s σ H x vs v us Q I rx rv ⟨y,e1,e2,q⟩
 subst e1 e2
 obtain ⟨t,rfl⟩:=rx
 cases rv
 exact SC.isascii ⟨.bl _,H,I,rfl,q⟩
noncomputable def yX:V→List V→Hp→VK→Prop:=fun x vs H Q=>∃ y:Str,x = .str y∧vs=[]∧Q (.bl (Txt.isdigit y)) H
theorem xA:MtM X "str.isdigit" yX:=by
 intro pins s σ H x vs v us Q I rx rv ⟨y,e1,e2,q⟩
 subst e1 e2
 obtain ⟨t,rfl⟩:=rx
 cases rv
 exact SC.isdigit ⟨.bl _,H,I,rfl,q⟩
theorem lV:∀ {ts:List Str} {us:List Value},Vals (ts.map V.str) us→∃ l:List (Str × Tok),us=strValues l∧l.map (·.1)=ts
 | [],_,h=>by cases h;exact ⟨[],rfl,rfl⟩
 | x :: ts,_,h=>by
  cases h with
  | cons r h=>
   obtain ⟨t,rfl⟩:=r
   obtain ⟨l,rfl,e⟩:=lV h
   exact ⟨(x,t) :: l,rfl,by rw [← e];rfl⟩
theorem kS:∀ (l:List (Str × Tok)),Vals ((l.map (·.1)).map V.str) (strValues l)
 | [] => .nil
 | (x,t) :: l => .cons ⟨t,rfl⟩ (kS l)
noncomputable def pS (K:PySem.W.Frag):V→List V→Hp→VK→Prop:=fun x vs H Q=>∃ (y:Str) (a:Addr) (ts:List Str),x = .str y∧vs=[.ref a]∧SqL K H a (ts.map V.str)∧JoinOk y ts=true∧Q (.str (Txt.join y ts)) H
theorem jG {K:PySem.W.Frag}(hK:X.K=K):MtM X "str.join" (pS K):=by
 subst hK
 intro pins s σ H x vs v us Q I rx rv ⟨y,a,ts,e1,e2,hq,hok,q⟩
 subst e1 e2
 obtain ⟨t,rfl⟩:=rx
 obtain ⟨u,rfl,ru⟩:=rv.one
 obtain rfl:u=Value.ref a:=ru
 obtain ⟨its,r,pl,_⟩:=I.list hq
 obtain ⟨l,rfl,el⟩:=lV r
 exact SC.join pl.isList el hok fun t' k=>⟨.str _,H,I.tok k,⟨_,rfl⟩,q⟩
noncomputable def sY:V→List V→Hp→VK→Prop:=fun x vs H Q=>∃ (y z:Str),x = .str y∧vs=[.str z]∧(z.length == 0)=false∧y.length≤sizeLine∧(Txt.split y z).length≤sizeLine∧∀ l,H l=none→Q (.ref l) (upd H l (.lst ((Txt.split y z).map V.str)))
theorem sO:MtM X "str.split" sY:=by
 intro pins s σ H x vs v us Q I rx rv ⟨y,z,e1,e2,h0,h1,h3,q⟩
 subst e1 e2
 obtain ⟨t,rfl⟩:=rx
 obtain ⟨u,rfl,tu,rfl⟩:=rv.one
 have fin:∀ (l:List (Str × Tok)) (k:Nat),l.map (·.1)=Txt.split y z→EP X pins σ Q (.ref s.heap.objs.size) { s with heap:=s.heap.push { cls := .type "list",data := .seq (strValues l).toArray },toks:=k }:=fun l k el=>by
  refine ⟨.ref s.heap.objs.size,_,I.laid (t':=k) (o := .lst ((Txt.split y z).map V.str)) (fun b o e=>by rw [Heap.get?_push_ne _ _ _ (Nat.ne_of_lt (Heap.lt_size e))];exact e) (Nat.le_refl _) ?_,rfl,q _ (I.hok.fresh (Nat.le_refl _))⟩
  refine ⟨by rw [List.length_map];exact h3,strValues l,0,?_,Heap.get?_push_size _ rfl⟩
  rw [← el]
  exact kS l
 by_cases c1:(decide (y.length<z.length) || decide (Builtin.Str.strKind y<Builtin.Str.strKind z))=true
 ·exact call_meets F.slot_str_split (typeIs_str _ _ _) F.entry_str_split (F.args_str_split_2 _ _) (meets_str_split_cannot_occur y z t tu c1) (fin [(y,t)] s.toks (by unfold Txt.split;rw [if_pos c1];rfl))
 ·rw [Bool.not_eq_true] at c1
  by_cases c2:(Builtin.Str.occurrences y z 0 y.length (y.length+1)).isEmpty=true
  ·exact call_meets F.slot_str_split (typeIs_str _ _ _) F.entry_str_split (F.args_str_split_2 _ _) (meets_str_split_not_found y z t tu c1 h0 c2) (fin [(y,t)] s.toks (by unfold Txt.split;rw [if_neg (by rw [c1];decide),if_pos c2];rfl))
  ·rw [Bool.not_eq_true] at c2
   have es:Txt.split y z=Builtin.Str.partsBetween y (Builtin.Str.occurrences y z 0 y.length (y.length+1)) z.length:=by unfold Txt.split;rw [if_neg (by rw [c1];decide),if_neg (by rw [c2];decide)]
   refine call_meets F.slot_str_split (typeIs_str _ _ _) F.entry_str_split (F.args_str_split_2 _ _) (meets_str_split_sep y z t tu c1 h0 c2 h1 (by rw [← es];exact h3)) ?_
   have g:=fin (numbered s.toks (Txt.split y z)) (s.toks+(Builtin.Str.partsBetween y (Builtin.Str.occurrences y z 0 y.length (y.length+1)) z.length).length) (numbered_texts _ _)
   rw [← strsFrom_eq,es] at g
   exact g
end
theorem iP {c:Nat}:∀ {a b r t:List Nat},c∉a→c∉b→a++c :: r=b++c :: t→a=b∧r=t
 | [],[],r,t,_,_,e=>by simp at e;exact ⟨rfl,e⟩
 | [],y :: b,r,t,_,hb,e=>by
  simp only [List.nil_append,List.cons_append,List.cons.injEq] at e
  exact absurd (by rw [e.1];exact List.mem_cons_self) hb
 | x :: a,[],r,t,ha,_,e=>by
  simp only [List.nil_append,List.cons_append,List.cons.injEq] at e
  exact absurd (by rw [← e.1];exact List.mem_cons_self) ha
 | x :: a,y :: b,r,t,ha,hb,e=>by
  simp only [List.cons_append,List.cons.injEq] at e
  obtain ⟨h1,h2⟩:=iP (fun h=>ha (List.mem_cons_of_mem _ h)) (fun h=>hb (List.mem_cons_of_mem _ h)) e.2
  exact ⟨by rw [e.1,h1],h2⟩
noncomputable def gE (c:Nat):List (List Nat)→List Nat
 | []=>[]
 | [a]=>a
 | a :: b :: r=>a++c :: gE c (b :: r)
theorem kL {c:Nat}:∀ {as bs:List (List Nat)},as≠[]→bs≠[]→(∀ a∈as,c∉a)→(∀ b∈bs,c∉b)→gE c as=gE c bs→as=bs
 | [],_,h,_,_,_,_=>absurd rfl h
 | _,[],_,h,_,_,_=>absurd rfl h
 | [a],[b],_,_,_,_,e=>by rw [show a=b from e]
 | [a],b :: b' :: bs,_,_,ha,_,e=>by
  have e':a=b++c :: gE c (b' :: bs):=e
  exact absurd (by rw [e'];simp) (ha a (by simp))
 | a :: a' :: as,[b],_,_,_,hb,e=>by
  have e':a++c :: gE c (a' :: as)=b:=e
  exact absurd (by rw [← e'];simp) (hb b (by simp))
 | a :: a' :: as,b :: b' :: bs,_,_,ha,hb,e=>by
  have e':a++c :: gE c (a' :: as)=b++c :: gE c (b' :: bs):=e
  obtain ⟨h1,h2⟩:=iP (ha a (by simp)) (hb b (by simp)) e'
  rw [h1,kL (by simp) (by simp) (fun x hx=>ha x (List.mem_cons_of_mem _ hx)) (fun x hx=>hb x (List.mem_cons_of_mem _ hx)) h2]
theorem fF (c:Nat):∀ (ts:List Str),(Str.join ⟨#[c]⟩ ts).cps.toList=gE c (ts.map fun t=>t.cps.toList)
 | []=>rfl
 | [a]=>rfl
 | a :: b :: r=>by
  have e:Str.join ⟨#[c]⟩ (a :: b :: r)=a++⟨#[c]⟩++Str.join ⟨#[c]⟩ (b :: r):=rfl
  rw [e,Str.cps_append,Str.cps_append,Array.toList_append,Array.toList_append,fF c (b :: r)]
  show (a.cps.toList++[c])++gE c (b.cps.toList :: r.map _)=a.cps.toList++c :: gE c (b.cps.toList :: r.map _)
  simp
theorem tX {a b:Str}(h:a.cps.toList=b.cps.toList):a=b:=Str.ext' (Array.toList_inj.mp h)
theorem rX (x y:Str):Txt.split x y≠[]:=by
 unfold Txt.split
 split
 ·simp
 ·split
  ·simp
  ·rw [StrLaws.partsBetween_eq]
   obtain ⟨p,r,e⟩:=StrLaws.partsFrom_ne x y.length 0 (Builtin.Str.occurrences x y 0 x.length (x.length+1))
   rw [e];simp
theorem nZ (c:Nat)(ws:List Str)(h:ws≠[])(hf:∀ t∈ws,c∉t.cps.toList):Txt.split (Txt.join ⟨#[c]⟩ ws) ⟨#[c]⟩=ws:=by
 have e0:Txt.join ⟨#[c]⟩ ws=Str.join ⟨#[c]⟩ ws:=StrLaws.glued_eq_join _ _
 have e1:=StrLaws.join_split (Txt.join ⟨#[c]⟩ ws) ⟨#[c]⟩
 have e2:gE c ((Txt.split (Txt.join ⟨#[c]⟩ ws) ⟨#[c]⟩).map fun t=>t.cps.toList)=gE c (ws.map fun t=>t.cps.toList):=by
  rw [← fF,← fF,e1,e0]
 have e3:=kL (by simpa using rX _ _) (by simpa using h) (fun a ha=>by
  obtain ⟨t,ht,rfl⟩:=List.mem_map.mp ha
  exact StrLaws.split_free _ c t ht) (fun a ha=>by
  obtain ⟨t,ht,rfl⟩:=List.mem_map.mp ha
  exact hf t ht) e2
 have inj:∀ (as bs:List Str),as.map (fun t=>t.cps.toList)=bs.map (fun t=>t.cps.toList)→as=bs:=by
  intro as
  induction as with
  | nil=>intro bs e;cases bs with
   | nil=>rfl
   | cons b bs=>simp at e
  | cons a as ih=>intro bs e;cases bs with
   | nil=>simp at e
   | cons b bs=>
    rw [List.map_cons,List.map_cons,List.cons.injEq] at e
    rw [tX e.1,ih bs e.2]
 exact inj _ _ e3
end L2
namespace K83
open PySem L2
noncomputable def top (i:Nat):Stmt:=PySem.Challenge.pw_homeround_k83_tables_written_and_read.main.body.getD i (.Pass ⟨0,0,0,0⟩)
section
variable {P:Program}{w:World}{K:PySem.W.Frag}{mg:Str→Option Value}{base:Heap}{f:Addr}{fd:FuncData}
theorem iF:aZ ["thing"] ["thing"] (aG (top 6)):=⟨rfl,rfl,rfl,by decide +kernel,rfl,by decide +kernel,by decide +kernel⟩
noncomputable def iW (K:PySem.W.Frag)   : TS:=(aU (gD (lC (tCB (uN K) (aD (aK 0) (aD (tC (.ty "int")) aS))) (wQ (tCB (uN K) (aD (aK 0) (aD (tC (.ty "bool")) aS)))))) aM)
theorem mN (F:Fun K "is_whole" "is_whole" (top 6) f fd)(B:mB mg)      {sp:Sp}(len:∀ vs H Q E,sp vs H Q E→vs.length=1)
  (rd:∀ vs H Q E,sp vs H Q E→iW K   { nx:=fun _ H'=>Q .non H',rt:=Q } (aW ["thing"] vs) H):FnOk P w K mg base CX0 1 f fd ["thing"] sp:=by
 refine F.ok iF len (fun cdv A outer s H vs Q E hr h=>⟨_,?_,rd vs H Q E h⟩)
 have nd:=iF.nd
 exact (@aA _ _ _ _ _ (@bE _ _ _ _ (gQ (aL (dH (K:=K) rfl) rfl B.isi lU (@aB _ _ _ _ _ _ (pv 0) (@aB _ _ _ _ _ _ (hZ (v := .ty "int") rfl B.int mW rfl) aC))) (jF (wI (aL (dH (K:=K) rfl) rfl B.isi lU (@aB _ _ _ _ _ _ (pv 0) (@aB _ _ _ _ _ _ (hZ (v := .ty "bool") rfl B.bool uU rfl) aC))))))) aF)
theorem eR:aZ ["thing"] ["thing"] (aG (top 7)):=⟨rfl,rfl,rfl,by decide +kernel,rfl,by decide +kernel,by decide +kernel⟩
noncomputable def fZ (K:PySem.W.Frag)  (cV:Sp):TS:=(aU (gD (lC (tCB (uN K) (aD (aK 0) (aD (tC (.ty "tuple")) aS))) (tCB (yE K) (aD (gC [none] (rC K (aK 0)) (aO 0) [] fun acc=>(fG (cC cV [] E0 (aD (aK 0) aS)) acc)) aS)))) aM)
theorem kC (F:Fun K "are_wholes" "are_wholes" (top 7) f fd)(B:mB mg)    {cV:Sp}(fM:Def P w K mg base "is_whole" 1 ["thing"] cV)  {sp:Sp}(len:∀ vs H Q E,sp vs H Q E→vs.length=1)
  (rd:∀ vs H Q E,sp vs H Q E→fZ K  cV { nx:=fun _ H'=>Q .non H',rt:=Q } (aW ["thing"] vs) H):FnOk P w K mg base CX0 2 f fd ["thing"] sp:=by
 refine F.ok eR len (fun cdv A outer s H vs Q E hr h=>⟨_,?_,rd vs H Q E h⟩)
 have nd:=eR.nd
 exact (@aA _ _ _ _ _ (@bE _ _ _ _ (gQ (aL (dH (K:=K) rfl) rfl B.isi lU (@aB _ _ _ _ _ _ (pv 0) (@aB _ _ _ _ _ _ (hZ (v := .ty "tuple") rfl B.tuple cD rfl) aC))) (jF (aL (lX (K:=K) rfl rfl) rfl B.all tI (bJ (dD (N':=["part"]) (ix:=[none]) rfl rfl rfl (fK (K:=K) rfl (pv 0)) (fun _ _ _=>(bG (i:=0) (show (["part"]:List Str).Nodup from by decide +kernel) rfl (Or.inl rfl))) (fun _ _ _ => .nil) (fun _ _ _ _=>(cU rfl (bQ (fM.mono (by decide)) hr rfl (@aB _ _ _ _ _ _ (pv 0) aC)) rfl))) aC))))) aF)
theorem fP:aZ ["word","most","number"] ["word","most"] (aG (top 8)):=⟨rfl,rfl,rfl,by decide +kernel,rfl,by decide +kernel,by decide +kernel⟩
noncomputable def gO (K:PySem.W.Frag)   : TS:=(aU (lD (tOr (dA (tOp yGt (tCB uF (aD (aK 0) aS)) (tCB uF (aD (tCB qI (aD (aK 1) aS)) aS)))) (tOr (qZ (tB (xQ K "str" yY (aK 0)))) (qZ (tB (xQ K "str" yX (aK 0)))))) (aU (gD (tC .non)) aM) aM) (aU (cY (tCB vC (aD (aK 0) aS)) (aO 2)) (aU (gD (tIf (yZ (dA (tOp yLe (aK 2) (aK 1))) (dA (tOp (qY K) (tCB qI (aD (aK 2) aS)) (aK 0)))) (aK 2) (tC .non))) aM)))
theorem kY (F:Fun K "number_in" "number_in" (top 8) f fd)(B:mB mg)      {sp:Sp}(len:∀ vs H Q E,sp vs H Q E→vs.length=2)
  (rd:∀ vs H Q E,sp vs H Q E→gO K   { nx:=fun _ H'=>Q .non H',rt:=Q } (aW ["word","most","number"] vs) H):FnOk P w K mg base CX0 1 f fd ["word","most"] sp:=by
 refine F.ok fP len (fun cdv A outer s H vs Q E hr h=>⟨_,?_,rd vs H Q E h⟩)
 have nd:=fP.nd
 exact (@aA _ _ _ _ _ (@eG _ _ _ _ _ _ _ _ (PW.pt (pB (bN wD (aL lQ rfl B.len cH (@aB _ _ _ _ _ _ (pv 0) aC)) (aL lQ rfl B.len cH (@cE _ _ _ _ _ _ _ _ (aR eE rfl B.str lW (@aB _ _ _ _ _ _ (pv 1) aC)) aC)) (bA _)) (pB (eJ (fV (qG (K:=K) rfl PySem.F.plainAttrs_str PySem.F.slot_str_isascii PySem.F.type_str_isascii xF (pv 0)))) (nM (eJ (fV (qG (K:=K) rfl PySem.F.plainAttrs_str PySem.F.slot_str_isdigit PySem.F.type_str_isdigit xA (pv 0)))))))) (@aA _ _ _ _ _ (@bE _ _ _ _ oR) aF) aF) (@aA _ _ _ _ _ (@bF _ _ 2 _ _ _ _ nd rfl (Or.inl rfl) (aR lF rfl B.int mW (@aB _ _ _ _ _ _ (pv 0) aC)) (by rfl) (by first | exact .inl rfl | exact .inr rfl | assumption)) (@aA _ _ _ _ _ (@bE _ _ _ _ (nL (PW.pt (wX (bN rO (pv 2) (pv 1) (bA _)) (uY (bN (hX (K:=K) rfl hr) (aR eE rfl B.str lW (@aB _ _ _ _ _ _ (pv 2) aC)) (pv 0) (bA _))))) (pv 2) oR)) aF)))
theorem iH:aZ ["thing"] ["thing"] (aG (top 10)):=⟨rfl,rfl,rfl,by decide +kernel,rfl,by decide +kernel,by decide +kernel⟩
noncomputable def jE (K:PySem.W.Frag)  (bK:Sp):TS:=(aU (lD (tOr (qZ (tB (tCB (uN K) (aD (aK 0) (aD (tC (.ty "tuple")) aS))))) (qZ (dA (tJ yLe yLe (tC (.int 1)) (tCB (mF K) (aD (aK 0) aS)) (tC (.int 8)))))) (aU (gD (tC (.bl false))) aM) aM) (aU (gD (tCB (yE K) (aD (gC [none,none,some 0] (rJ K (aD (aK 0) aS)) (vX K 2 (mI (aO 0) (mI (aO 1) xK))) [] fun acc=>(fG (cC bK [] E0 (aD (aK 1) (aD (aK 0) (aD (tCB (mF K) (aD (aK 2) aS)) aS)))) acc)) aS))) aM))
theorem mT (F:Fun K "is_table" "is_table" (top 10) f fd)(B:mB mg){tk_MOST_PLACES:Tok}(G_MOST_PLACES:mg "MOST_PLACES" = some (.int 8 tk_MOST_PLACES))   {bK:Sp}(cM:Def P w K mg base "is_table_row" 3 ["thing","own","many"] bK)  {sp:Sp}(len:∀ vs H Q E,sp vs H Q E→vs.length=1)
  (rd:∀ vs H Q E,sp vs H Q E→jE K  bK { nx:=fun _ H'=>Q .non H',rt:=Q } (aW ["thing"] vs) H):FnOk P w K mg base CX0 4 f fd ["thing"] sp:=by
 refine F.ok iH len (fun cdv A outer s H vs Q E hr h=>⟨_,?_,rd vs H Q E h⟩)
 have nd:=iH.nd
 exact (@aA _ _ _ _ _ (@eG _ _ _ _ _ _ _ _ (PW.pt (pB (eJ (fV (aL (dH (K:=K) rfl) rfl B.isi lU (@aB _ _ _ _ _ _ (pv 0) (@aB _ _ _ _ _ _ (hZ (v := .ty "tuple") rfl B.tuple cD rfl) aC))))) (nM (eJ (sI rO rO aH (aL (aY (K:=K) rfl) rfl B.len cH (@aB _ _ _ _ _ _ (pv 0) aC)) (fL rfl G_MOST_PLACES ⟨_,rfl⟩)))))) (@aA _ _ _ _ _ (@bE _ _ _ _ oH) aF) aF) (@aA _ _ _ _ _ (@bE _ _ _ _ (aL (lX (K:=K) rfl rfl) rfl B.all tI (bJ (dD (N':=["own","row","thing"]) (ix:=[none,none,some 0]) rfl rfl rfl (nP (K:=K) rfl rfl B.enumerate (@aB _ _ _ _ _ _ (pv 0) aC)) (fun _ _ _=>(pN (K:=K) rfl rfl (gL (bG (i:=0) (show (["own","row","thing"]:List Str).Nodup from by decide +kernel) rfl (Or.inl rfl)) (gL (bG (i:=1) (show (["own","row","thing"]:List Str).Nodup from by decide +kernel) rfl (Or.inl rfl)) qJ)))) (fun _ _ _ => .nil) (fun _ _ _ _=>(cU rfl (bQ (cM.mono (by decide)) hr rfl (@aB _ _ _ _ _ _ (pv 1) (@aB _ _ _ _ _ _ (pv 0) (@cE _ _ _ _ _ _ _ _ (aL (aY (K:=K) rfl) rfl B.len cH (@aB _ _ _ _ _ _ (pv 2) aC)) aC)))) rfl))) aC))) aF))
theorem dE:aZ ["thing","own","many"] ["thing","own","many"] (aG (top 11)):=⟨rfl,rfl,rfl,by decide +kernel,rfl,by decide +kernel,by decide +kernel⟩
noncomputable def dX (K:PySem.W.Frag)  (bT:Sp):TS:=(aU (lD (tOr (qZ (tB (cC bT [] E0 (aD (aK 0) aS)))) (dA (tOp (uK K) (tCB (mF K) (aD (aK 0) aS)) (aK 2)))) (aU (gD (tC (.bl false))) aM) aM) (aU (gD (lC (tOp (qY K) (tOp (fY K) (aK 0) (aK 1)) (tC (.int 0))) (lC (tOp yGe (tCB (wN K) (aD (aK 0) aS)) (tC (.int 0))) (tOp yLe (tCB (yR K) (aD (aK 0) aS)) (tC (.int 1000000)))))) aM))
theorem gZ (F:Fun K "is_table_row" "is_table_row" (top 11) f fd)(B:mB mg){tk_LONGEST_WAY:Tok}(G_LONGEST_WAY:mg "LONGEST_WAY" = some (.int 1000000 tk_LONGEST_WAY))   {bT:Sp}(dL:Def P w K mg base "are_wholes" 2 ["thing"] bT)  {sp:Sp}(len:∀ vs H Q E,sp vs H Q E→vs.length=3)
  (rd:∀ vs H Q E,sp vs H Q E→dX K  bT { nx:=fun _ H'=>Q .non H',rt:=Q } (aW ["thing","own","many"] vs) H):FnOk P w K mg base CX0 3 f fd ["thing","own","many"] sp:=by
 refine F.ok dE len (fun cdv A outer s H vs Q E hr h=>⟨_,?_,rd vs H Q E h⟩)
 have nd:=dE.nd
 exact (@aA _ _ _ _ _ (@eG _ _ _ _ _ _ _ _ (PW.pt (pB (eJ (fV (bQ (dL.mono (by decide)) hr rfl (@aB _ _ _ _ _ _ (pv 0) aC)))) (nM (bN (kJ (K:=K) rfl hr) (aL (aY (K:=K) rfl) rfl B.len cH (@aB _ _ _ _ _ _ (pv 0) aC)) (pv 2) (bA _))))) (@aA _ _ _ _ _ (@bE _ _ _ _ oH) aF) aF) (@aA _ _ _ _ _ (@bE _ _ _ _ (gQ (cK (hX (K:=K) rfl hr) (@dB _ _ _ _ _ _ _ (bP (K:=K) rfl) (pv 0) (pv 1) (fun _ _=>rfl)) aH (bA _)) (gQ (cK yO (aL (oJ (K:=K) rfl hr rfl) rfl B.min wG (@aB _ _ _ _ _ _ (pv 0) aC)) aH (bA _)) (jF (cK rO (aL (pW (K:=K) rfl rfl) rfl B.max vN (@aB _ _ _ _ _ _ (pv 0) aC)) (fL rfl G_LONGEST_WAY ⟨_,rfl⟩) (bA _)))))) aF))
theorem eL:aZ ["table"] ["table"] (aG (top 14)):=⟨rfl,rfl,rfl,by decide +kernel,rfl,by decide +kernel,by decide +kernel⟩
noncomputable def fX (K:PySem.W.Frag)   : TS:=(aU (gD (tBM K "str" (pS K) (tC (.str " / ")) (aD (gC [none] (rC K (aK 0)) (aO 0) [] fun acc=>(fG (tBM K "str" (pS K) (tC (.str " ")) (aD (gC [none] (rC K (aK 0)) (aO 0) [] fun acc=>(fG (tCB qI (aD (aK 0) aS)) acc)) aS)) acc)) aS))) aM)
theorem jX (F:Fun K "show_table" "show_table" (top 14) f fd)(B:mB mg)      {sp:Sp}(len:∀ vs H Q E,sp vs H Q E→vs.length=1)
  (rd:∀ vs H Q E,sp vs H Q E→fX K   { nx:=fun _ H'=>Q .non H',rt:=Q } (aW ["table"] vs) H):FnOk P w K mg base CX0 1 f fd ["table"] sp:=by
 refine F.ok eL len (fun cdv A outer s H vs Q E hr h=>⟨_,?_,rd vs H Q E h⟩)
 have nd:=eL.nd
 exact (@aA _ _ _ _ _ (@bE _ _ _ _ (eI (K:=K) rfl PySem.F.plainAttrs_str PySem.F.slot_str_join PySem.F.type_str_join (jG (K:=K) rfl) kQ (bJ (dD (N':=["row"]) (ix:=[none]) rfl rfl rfl (fK (K:=K) rfl (pv 0)) (fun _ _ _=>(bG (i:=0) (show (["row"]:List Str).Nodup from by decide +kernel) rfl (Or.inl rfl))) (fun _ _ _ => .nil) (fun _ _ _ _=>(cU rfl (eI (K:=K) rfl PySem.F.plainAttrs_str PySem.F.slot_str_join PySem.F.type_str_join (jG (K:=K) rfl) kQ (bJ (dD (N':=["way"]) (ix:=[none]) rfl rfl rfl (fK (K:=K) rfl (pv 0)) (fun _ _ _=>(bG (i:=0) (show (["way"]:List Str).Nodup from by decide +kernel) rfl (Or.inl rfl))) (fun _ _ _ => .nil) (fun _ _ _ _=>(cU rfl (aR eE rfl B.str lW (@aB _ _ _ _ _ _ (pv 0) aC)) rfl))) aC)) rfl))) aC))) aF)
theorem fD:aZ ["text","words","rows","at","word","table"] ["text"] (aG (top 15)):=⟨rfl,rfl,rfl,by decide +kernel,rfl,by decide +kernel,by decide +kernel⟩
noncomputable def gB (K:PySem.W.Frag)  (cW:Sp) (cX:Sp):TS:=(aU (cY (tBM K "str" sY (aK 0) (aD (tC (.str " ")) aS)) (aO 1)) (aU (cY (rW (aD (rW aS) aS)) (aO 2)) (aU (vG (rJ K (aD (aK 1) aS)) (vX K 2 (mI (aO 3) (mI (aO 4) xK))) (aU (lD (qZ (tB (cC cX [] E0 (aD (aK 2) (aD (aK 4) aS))))) (aU qC aM) aM) (aU (lD (dA (tOp (qY K) (aK 4) (tC (.str "/")))) (aU (qT (tBM K "list" gW (aK 2) (aD (rW aS) aS))) aM) (aU (qT (tBM K "list" gW (tOp (fY K) (aK 2) (tUn yW (tC (.int 1)))) (aD (tCB vC (aD (aK 4) aS)) aS))) aM)) aM))) (aU (cY (tCB (eW K) (aD (gC [none] (rC K (aK 2)) (aO 0) [] fun acc=>(fG (tCB (eW K) (aD (aK 0) aS)) acc)) aS)) (aO 5)) (aU (lD (qZ (tB (cC cW [] E0 (aD (aK 5) aS)))) (aU qC aM) aM) (aU (gD (aK 5)) aM))))))
theorem jK (F:Fun K "read_table" "read_table" (top 15) f fd)(B:mB mg){tk_ROW_END:Tok}(G_ROW_END:mg "ROW_END" = some (.str "/" tk_ROW_END))   {cW:Sp}(fN:Def P w K mg base "is_table" 4 ["thing"] cW){cX:Sp}(fO:Def P w K mg base "may_come" 2 ["rows","word"] cX)  {sp:Sp}(len:∀ vs H Q E,sp vs H Q E→vs.length=1)
  (rd:∀ vs H Q E,sp vs H Q E→gB K  cW cX { nx:=fun _ H'=>Q .non H',rt:=Q } (aW ["text","words","rows","at","word","table"] vs) H):FnOk P w K mg base CX0 5 f fd ["text"] sp:=by
 refine F.ok fD len (fun cdv A outer s H vs Q E hr h=>⟨_,?_,rd vs H Q E h⟩)
 have nd:=fD.nd
 exact (@aA _ _ _ _ _ (@bF _ _ 1 _ _ _ _ nd rfl (Or.inl rfl) (eI (K:=K) rfl PySem.F.plainAttrs_str PySem.F.slot_str_split PySem.F.type_str_split sO (pv 0) (@bD _ _ _ _ _ _ _ kQ aC)) (by rfl) (by first | exact .inl rfl | exact .inr rfl | assumption)) (@aA _ _ _ _ _ (@bF _ _ 2 _ _ _ _ nd rfl (Or.inl rfl) (@gS _ _ _ _ (@nC _ _ _ _ _ _ (@gS _ _ _ _ aC) aC)) (by rfl) (by first | exact .inl rfl | exact .inr rfl | assumption)) (@aA _ _ _ _ _ (lS PassesOwn.never rfl (nP (K:=K) rfl rfl B.enumerate (@aB _ _ _ _ _ _ (pv 1) aC)) (pN (K:=K) rfl rfl (gL (bG (i:=3) nd rfl (Or.inl rfl)) (gL (bG (i:=4) nd rfl (Or.inl rfl)) qJ))) (@aA _ _ _ _ _ (@eG _ _ _ _ _ _ _ _ (eJ (fV (bQ (fO.mono (by decide)) hr rfl (@aB _ _ _ _ _ _ (pv 2) (@aB _ _ _ _ _ _ (pv 4) aC))))) (@aA _ _ _ _ _ nQ aF) aF) (@aA _ _ _ _ _ (@eG _ _ _ _ _ _ _ _ (bN (hX (K:=K) rfl hr) (pv 4) (fL rfl G_ROW_END ⟨_,rfl⟩) (bA _)) (@aA _ _ _ _ _ (jP (eI (K:=K) rfl PySem.F.plainAttrs_list PySem.F.slot_list_append PySem.F.type_list_append dC (pv 2) (@nC _ _ _ _ _ _ (@gS _ _ _ _ aC) aC))) aF) (@aA _ _ _ _ _ (jP (eI (K:=K) rfl PySem.F.plainAttrs_list PySem.F.slot_list_append PySem.F.type_list_append dC (@dB _ _ _ _ _ _ _ (bP (K:=K) rfl) (pv 2) (vM tF aH) (fun _ _=>rfl)) (@cE _ _ _ _ _ _ _ _ (aR lF rfl B.int mW (@aB _ _ _ _ _ _ (pv 4) aC)) aC))) aF)) aF))) (@aA _ _ _ _ _ (@bF _ _ 5 _ _ _ _ nd rfl (Or.inl rfl) (aR (bO (K:=K) rfl) rfl B.tuple cD (bJ (dD (N':=["row"]) (ix:=[none]) rfl rfl rfl (fK (K:=K) rfl (pv 2)) (fun _ _ _=>(bG (i:=0) (show (["row"]:List Str).Nodup from by decide +kernel) rfl (Or.inl rfl))) (fun _ _ _ => .nil) (fun _ _ _ _=>(cU rfl (aR (bO (K:=K) rfl) rfl B.tuple cD (@aB _ _ _ _ _ _ (pv 0) aC)) rfl))) aC)) (by rfl) (by first | exact .inl rfl | exact .inr rfl | assumption)) (@aA _ _ _ _ _ (@eG _ _ _ _ _ _ _ _ (eJ (fV (bQ (fN.mono (by decide)) hr rfl (@aB _ _ _ _ _ _ (pv 5) aC)))) (@aA _ _ _ _ _ nQ aF) aF) (@aA _ _ _ _ _ (@bE _ _ _ _ (pv 5)) aF))))))
theorem hU:aZ ["rows","word","many","own","here","way"] ["rows","word"] (aG (top 16)):=⟨rfl,rfl,rfl,by decide +kernel,rfl,by decide +kernel,by decide +kernel⟩
noncomputable def iY (K:PySem.W.Frag)  (cI:Sp):TS:=(aU (cY (tIf (dA (tOp (qY K) (tCB (mF K) (aD (aK 0) aS)) (tC (.int 1)))) (tC (.int 8)) (tCB (mF K) (aD (tOp (fY K) (aK 0) (tC (.int 0))) aS))) (aO 2)) (aU (cY (tOp zT (tCB (mF K) (aD (aK 0) aS)) (tC (.int 1))) (aO 3)) (aU (cY (tCB (mF K) (aD (tOp (fY K) (aK 0) (tUn yW (tC (.int 1)))) aS)) (aO 4)) (aU (lD (dA (tOp (qY K) (aK 1) (tC (.str "/")))) (aU (gD (lC (tOp (qY K) (aK 4) (tCB (mF K) (aD (tOp (fY K) (aK 0) (tC (.int 0))) aS))) (tOp yLt (tCB (mF K) (aD (aK 0) aS)) (aK 4)))) aM) aM) (aU (cY (cC cI [] E0 (aD (aK 1) (aD (tC (.int 1000000)) aS))) (aO 5)) (aU (gD (lC (tOp oZ (aK 5) (tC .non)) (lC (tOp yLt (aK 4) (aK 2)) (yV (tOp (uK K) (aK 4) (aK 3)) (tOp (qY K) (aK 5) (tC (.int 0))))))) aM))))))
theorem mE (F:Fun K "may_come" "may_come" (top 16) f fd)(B:mB mg){tk_LONGEST_WAY:Tok}(G_LONGEST_WAY:mg "LONGEST_WAY" = some (.int 1000000 tk_LONGEST_WAY)){tk_MOST_PLACES:Tok}(G_MOST_PLACES:mg "MOST_PLACES" = some (.int 8 tk_MOST_PLACES)){tk_ROW_END:Tok}(G_ROW_END:mg "ROW_END" = some (.str "/" tk_ROW_END))   {cI:Sp}(eB:Def P w K mg base "number_in" 1 ["word","most"] cI)  {sp:Sp}(len:∀ vs H Q E,sp vs H Q E→vs.length=2)
  (rd:∀ vs H Q E,sp vs H Q E→iY K  cI { nx:=fun _ H'=>Q .non H',rt:=Q } (aW ["rows","word","many","own","here","way"] vs) H):FnOk P w K mg base CX0 2 f fd ["rows","word"] sp:=by
 refine F.ok hU len (fun cdv A outer s H vs Q E hr h=>⟨_,?_,rd vs H Q E h⟩)
 have nd:=hU.nd
 exact (@aA _ _ _ _ _ (@bF _ _ 2 _ _ _ _ nd rfl (Or.inl rfl) (nL (bN (hX (K:=K) rfl hr) (aL (aY (K:=K) rfl) rfl B.len cH (@aB _ _ _ _ _ _ (pv 0) aC)) aH (bA _)) (fL rfl G_MOST_PLACES ⟨_,rfl⟩) (aL (aY (K:=K) rfl) rfl B.len cH (@cF _ _ _ _ _ _ _ (@dB _ _ _ _ _ _ _ (bP (K:=K) rfl) (pv 0) aH (fun _ _=>rfl)) aC))) (by rfl) (by first | exact .inl rfl | exact .inr rfl | assumption)) (@aA _ _ _ _ _ (@bF _ _ 3 _ _ _ _ nd rfl (Or.inl rfl) (@bB _ _ _ _ _ _ _ _ vP (aL (aY (K:=K) rfl) rfl B.len cH (@aB _ _ _ _ _ _ (pv 0) aC)) aH) (by rfl) (by first | exact .inl rfl | exact .inr rfl | assumption)) (@aA _ _ _ _ _ (@bF _ _ 4 _ _ _ _ nd rfl (Or.inl rfl) (aL (aY (K:=K) rfl) rfl B.len cH (@cF _ _ _ _ _ _ _ (@dB _ _ _ _ _ _ _ (bP (K:=K) rfl) (pv 0) (vM tF aH) (fun _ _=>rfl)) aC)) (by rfl) (by first | exact .inl rfl | exact .inr rfl | assumption)) (@aA _ _ _ _ _ (@eG _ _ _ _ _ _ _ _ (bN (hX (K:=K) rfl hr) (pv 1) (fL rfl G_ROW_END ⟨_,rfl⟩) (bA _)) (@aA _ _ _ _ _ (@bE _ _ _ _ (gQ (cK (hX (K:=K) rfl hr) (pv 4) (aL (aY (K:=K) rfl) rfl B.len cH (@cF _ _ _ _ _ _ _ (@dB _ _ _ _ _ _ _ (bP (K:=K) rfl) (pv 0) aH (fun _ _=>rfl)) aC)) (bA _)) (jF (cK pY (aL (aY (K:=K) rfl) rfl B.len cH (@aB _ _ _ _ _ _ (pv 0) aC)) (pv 4) (bA _))))) aF) aF) (@aA _ _ _ _ _ (@bF _ _ 5 _ _ _ _ nd rfl (Or.inl rfl) (bQ (eB.mono (by decide)) hr rfl (@aB _ _ _ _ _ _ (pv 1) (@aB _ _ _ _ _ _ (fL rfl G_LONGEST_WAY ⟨_,rfl⟩) aC))) (by rfl) (by first | exact .inl rfl | exact .inr rfl | assumption)) (@aA _ _ _ _ _ (@bE _ _ _ _ (gQ (cK qB (pv 5) oR (bA _)) (gQ (cK pY (pv 4) (pv 2) (bA _)) (jF (yI (cK (kJ (K:=K) rfl hr) (pv 4) (pv 3) (bA _)) (jF (cK (hX (K:=K) rfl hr) (pv 5) aH (bA _)))))))) aF))))))
theorem dG:aZ ["cell","at","one","two","three"] ["cell","at"] (aG (top 18)):=⟨rfl,rfl,rfl,by decide +kernel,rfl,by decide +kernel,by decide +kernel⟩
noncomputable def dU (K:PySem.W.Frag)   : TS:=(aU (cY (tOp oK (tOp (dQ K) (tOp (dQ K) (tOp gN (tOp oK (aK 0) (tC (.int 2147483587))) (tC (.int 48271))) (tOp gN (aK 1) (tC (.int 69069)))) (tC (.int 11))) (tC (.int 2147483629))) (aO 2)) (aU (cY (tOp oK (tOp (dQ K) (tOp (dQ K) (tOp oK (tOp xJ (aK 2) (tC (.int 5))) (tC (.int 2147483647))) (tOp gN (tC (.int 7919)) (aK 1))) (tOp oK (aK 0) (tC (.int 65521)))) (tC (.int 2147483563))) (aO 3)) (aU (cY (tOp oK (tOp (dQ K) (tOp (dQ K) (tOp gN (aK 3) (aK 3)) (aK 2)) (tC (.int 5))) (tC (.int 2147483549))) (aO 4)) (aU (gD (tOp (dQ K) (tOp gN (tOp (dQ K) (tOp gN (aK 3) (tC (.int 2147483629))) (aK 4)) (tC (.int 2147483587))) (aK 2))) aM))))
theorem hE (F:Fun K "_law_gspread" "_law_gspread" (top 18) f fd)(B:mB mg)      {sp:Sp}(len:∀ vs H Q E,sp vs H Q E→vs.length=2)
  (rd:∀ vs H Q E,sp vs H Q E→dU K   { nx:=fun _ H'=>Q .non H',rt:=Q } (aW ["cell","at","one","two","three"] vs) H):FnOk P w K mg base CX0 1 f fd ["cell","at"] sp:=by
 refine F.ok dG len (fun cdv A outer s H vs Q E hr h=>⟨_,?_,rd vs H Q E h⟩)
 have nd:=dG.nd
 exact (@aA _ _ _ _ _ (@bF _ _ 2 _ _ _ _ nd rfl (Or.inl rfl) (@bB _ _ _ _ _ _ _ _ eF (@bB _ _ _ _ _ _ _ _ (bS (K:=K) rfl) (@bB _ _ _ _ _ _ _ _ (bS (K:=K) rfl) (@bB _ _ _ _ _ _ _ _ cS (@bB _ _ _ _ _ _ _ _ eF (pv 0) aH) aH) (@bB _ _ _ _ _ _ _ _ cS (pv 1) aH)) aH) aH) (by rfl) (by first | exact .inl rfl | exact .inr rfl | assumption)) (@aA _ _ _ _ _ (@bF _ _ 3 _ _ _ _ nd rfl (Or.inl rfl) (@bB _ _ _ _ _ _ _ _ eF (@bB _ _ _ _ _ _ _ _ (bS (K:=K) rfl) (@bB _ _ _ _ _ _ _ _ (bS (K:=K) rfl) (@bB _ _ _ _ _ _ _ _ eF (@bB _ _ _ _ _ _ _ _ pL (pv 2) aH) aH) (@bB _ _ _ _ _ _ _ _ cS aH (pv 1))) (@bB _ _ _ _ _ _ _ _ eF (pv 0) aH)) aH) (by rfl) (by first | exact .inl rfl | exact .inr rfl | assumption)) (@aA _ _ _ _ _ (@bF _ _ 4 _ _ _ _ nd rfl (Or.inl rfl) (@bB _ _ _ _ _ _ _ _ eF (@bB _ _ _ _ _ _ _ _ (bS (K:=K) rfl) (@bB _ _ _ _ _ _ _ _ (bS (K:=K) rfl) (@bB _ _ _ _ _ _ _ _ cS (pv 3) (pv 3)) (pv 2)) aH) aH) (by rfl) (by first | exact .inl rfl | exact .inr rfl | assumption)) (@aA _ _ _ _ _ (@bE _ _ _ _ (@bB _ _ _ _ _ _ _ _ (bS (K:=K) rfl) (@bB _ _ _ _ _ _ _ _ cS (@bB _ _ _ _ _ _ _ _ (bS (K:=K) rfl) (@bB _ _ _ _ _ _ _ _ cS (pv 3) aH) (pv 4)) aH) (pv 2))) aF))))
theorem eV:aZ ["tape","many","at","cell","drawn"] ["tape","many"] (aG (top 19)):=⟨rfl,rfl,rfl,by decide +kernel,rfl,by decide +kernel,by decide +kernel⟩
noncomputable def fQ (K:PySem.W.Frag)  (bL:Sp):TS:=(aU (lD (dA (tOp yLt (tOp (fY K) (aK 0) (tC (.int 2))) (aK 1))) (aU (cY (tOp (fY K) (aK 0) (tC (.int 1))) (aO 2)) (aU (cY (tOp (dQ K) (tOp gN (tC (.int 7)) (aK 2)) (tC (.int 3))) (aO 3)) (aU (lD (dA (tOp yLt (aK 2) (tCB (mF K) (aD (tOp (fY K) (aK 0) (tC (.int 0))) aS)))) (aU (cY (tOp (fY K) (tOp (fY K) (aK 0) (tC (.int 0))) (aK 2)) (aO 3)) aM) (aU (lD (dA (tOp yGt (tCB (mF K) (aD (tOp (fY K) (aK 0) (tC (.int 0))) aS)) (tC (.int 0)))) (aU (cY (tOp gN (tOp oK (tOp (fY K) (tOp (fY K) (aK 0) (tC (.int 0))) (tOp oK (aK 2) (tCB (mF K) (aD (tOp (fY K) (aK 0) (tC (.int 0))) aS)))) (tC (.int 99991))) (tOp (dQ K) (aK 2) (tC (.int 1)))) (aO 3)) aM) aM) aM)) (aU (cY (tOp (dQ K) (aK 2) (tC (.int 1))) (qV (aK 0) (tC (.int 1)) iE)) (aU (cY (aK 3) (qV (aK 0) (tC (.int 2)) iE)) (aU (lD (dA (tOp yLt (aK 3) (tOp xJ (tC (.int 10)) (tC (.int 18))))) (aU (cY (cC bL [] E0 (aD (aK 3) (aD (aK 2) aS))) (qV (aK 0) (tC (.int 2)) iE)) aM) aM) aM)))))) aM) (aU (cY (tOp oK (tOp (fY K) (aK 0) (tC (.int 2))) (aK 1)) (aO 4)) (aU (cY (tOp xX (tOp (fY K) (aK 0) (tC (.int 2))) (aK 1)) (qV (aK 0) (tC (.int 2)) iE)) (aU (gD (aK 4)) aM))))
theorem jZ (F:Fun K "_law_gdraw" "_law_gdraw" (top 19) f fd)(B:mB mg)    {bL:Sp}(cN:Def P w K mg base "_law_gspread" 1 ["cell","at"] bL)  {sp:Sp}(len:∀ vs H Q E,sp vs H Q E→vs.length=2)
  (rd:∀ vs H Q E,sp vs H Q E→fQ K  bL { nx:=fun _ H'=>Q .non H',rt:=Q } (aW ["tape","many","at","cell","drawn"] vs) H):FnOk P w K mg base CX0 2 f fd ["tape","many"] sp:=by
 refine F.ok eV len (fun cdv A outer s H vs Q E hr h=>⟨_,?_,rd vs H Q E h⟩)
 have nd:=eV.nd
 exact (@aA _ _ _ _ _ (@eG _ _ _ _ _ _ _ _ (bN pY (@dB _ _ _ _ _ _ _ (bP (K:=K) rfl) (pv 0) aH (fun _ _=>rfl)) (pv 1) (bA _)) (@aA _ _ _ _ _ (@bF _ _ 2 _ _ _ _ nd rfl (Or.inl rfl) (@dB _ _ _ _ _ _ _ (bP (K:=K) rfl) (pv 0) aH (fun _ _=>rfl)) (by rfl) (by first | exact .inl rfl | exact .inr rfl | assumption)) (@aA _ _ _ _ _ (@bF _ _ 3 _ _ _ _ nd rfl (Or.inl rfl) (@bB _ _ _ _ _ _ _ _ (bS (K:=K) rfl) (@bB _ _ _ _ _ _ _ _ cS aH (pv 2)) aH) (by rfl) (by first | exact .inl rfl | exact .inr rfl | assumption)) (@aA _ _ _ _ _ (@eG _ _ _ _ _ _ _ _ (bN pY (pv 2) (aL (aY (K:=K) rfl) rfl B.len cH (@cF _ _ _ _ _ _ _ (@dB _ _ _ _ _ _ _ (bP (K:=K) rfl) (pv 0) aH (fun _ _=>rfl)) aC)) (bA _)) (@aA _ _ _ _ _ (@bF _ _ 3 _ _ _ _ nd rfl (Or.inl rfl) (@dB _ _ _ _ _ _ _ (bP (K:=K) rfl) (@dB _ _ _ _ _ _ _ (bP (K:=K) rfl) (pv 0) aH (fun _ _=>rfl)) (pv 2) (fun _ _=>rfl)) (by rfl) (by first | exact .inl rfl | exact .inr rfl | assumption)) aF) (@aA _ _ _ _ _ (@eG _ _ _ _ _ _ _ _ (bN wD (aL (aY (K:=K) rfl) rfl B.len cH (@cF _ _ _ _ _ _ _ (@dB _ _ _ _ _ _ _ (bP (K:=K) rfl) (pv 0) aH (fun _ _=>rfl)) aC)) aH (bA _)) (@aA _ _ _ _ _ (@bF _ _ 3 _ _ _ _ nd rfl (Or.inl rfl) (@bB _ _ _ _ _ _ _ _ cS (@bB _ _ _ _ _ _ _ _ eF (@dB _ _ _ _ _ _ _ (bP (K:=K) rfl) (@dB _ _ _ _ _ _ _ (bP (K:=K) rfl) (pv 0) aH (fun _ _=>rfl)) (@bB _ _ _ _ _ _ _ _ eF (pv 2) (aL (aY (K:=K) rfl) rfl B.len cH (@cF _ _ _ _ _ _ _ (@dB _ _ _ _ _ _ _ (bP (K:=K) rfl) (pv 0) aH (fun _ _=>rfl)) aC))) (fun _ _=>rfl)) aH) (@bB _ _ _ _ _ _ _ _ (bS (K:=K) rfl) (pv 2) aH)) (by rfl) (by first | exact .inl rfl | exact .inr rfl | assumption)) aF) aF) aF)) (@aA _ _ _ _ _ (kR (@bB _ _ _ _ _ _ _ _ (bS (K:=K) rfl) (pv 2) aH) (kW (pv 0) aH eN)) (@aA _ _ _ _ _ (kR (pv 3) (kW (pv 0) aH eN)) (@aA _ _ _ _ _ (@eG _ _ _ _ _ _ _ _ (bN pY (pv 3) (@bB _ _ _ _ _ _ _ _ pL aH aH) (bA _)) (@aA _ _ _ _ _ (kR (bQ (cN.mono (by decide)) hr rfl (@aB _ _ _ _ _ _ (pv 3) (@aB _ _ _ _ _ _ (pv 2) aC))) (kW (pv 0) aH eN)) aF) aF) aF)))))) aF) (@aA _ _ _ _ _ (@bF _ _ 4 _ _ _ _ nd rfl (Or.inl rfl) (@bB _ _ _ _ _ _ _ _ eF (@dB _ _ _ _ _ _ _ (bP (K:=K) rfl) (pv 0) aH (fun _ _=>rfl)) (pv 1)) (by rfl) (by first | exact .inl rfl | exact .inr rfl | assumption)) (@aA _ _ _ _ _ (kR (@bB _ _ _ _ _ _ _ _ tQ (@dB _ _ _ _ _ _ _ (bP (K:=K) rfl) (pv 0) aH (fun _ _=>rfl)) (pv 1)) (kW (pv 0) aH eN)) (@aA _ _ _ _ _ (@bE _ _ _ _ (pv 4)) aF))))
theorem dI:aZ ["tape"] ["tape"] (aG (top 20)):=⟨rfl,rfl,rfl,by decide +kernel,rfl,by decide +kernel,by decide +kernel⟩
noncomputable def dW (K:PySem.W.Frag)  (aN:Sp):TS:=(aU (gD (cC aN [] E0 (aD (aK 0) (aD (tOp (fY K) (rW (aD (tC (.int 4)) (aD (tC (.int 10)) (aD (tC (.int 100)) (aD (tC (.int 1000001)) aS))))) (cC aN [] E0 (aD (aK 0) (aD (tC (.int 4)) aS)))) aS)))) aM)
theorem iD (F:Fun K "_law_glength" "_law_glength" (top 20) f fd)(B:mB mg)    {aN:Sp}(bC:Def P w K mg base "_law_gdraw" 2 ["tape","many"] aN)  {sp:Sp}(len:∀ vs H Q E,sp vs H Q E→vs.length=1)
  (rd:∀ vs H Q E,sp vs H Q E→dW K  aN { nx:=fun _ H'=>Q .non H',rt:=Q } (aW ["tape"] vs) H):FnOk P w K mg base CX0 3 f fd ["tape"] sp:=by
 refine F.ok dI len (fun cdv A outer s H vs Q E hr h=>⟨_,?_,rd vs H Q E h⟩)
 have nd:=dI.nd
 exact (@aA _ _ _ _ _ (@bE _ _ _ _ (bQ (bC.mono (by decide)) hr rfl (@aB _ _ _ _ _ _ (pv 0) (@cF _ _ _ _ _ _ _ (@dB _ _ _ _ _ _ _ (bP (K:=K) rfl) (@gS _ _ _ _ (@bD _ _ _ _ _ _ _ aH (@bD _ _ _ _ _ _ _ aH (@bD _ _ _ _ _ _ _ aH (@bD _ _ _ _ _ _ _ aH aC))))) (bQ (bC.mono (by decide)) hr rfl (@aB _ _ _ _ _ _ (pv 0) (@bD _ _ _ _ _ _ _ aH aC))) (fun _ _=>rfl)) aC)))) aF)
theorem fW:aZ ["tape","many","rows","i","row"] ["tape","many"] (aG (top 21)):=⟨rfl,rfl,rfl,by decide +kernel,rfl,by decide +kernel,by decide +kernel⟩
noncomputable def iC (K:PySem.W.Frag)  (bM:Sp):TS:=(aU (cY (rW aS) (aO 2)) (aU (vG (mK (aD (aK 1) aS)) (aO 3) (aU (cY (gC [none,some 0] (mK (aD (aK 1) aS)) (aO 0) [] fun acc=>(fG (cC bM [] E0 (aD (aK 1) aS)) acc)) (aO 4)) (aU (cY (tC (.int 0)) (qV (aK 4) (aK 3) iE)) (aU (qT (tBM K "list" gW (aK 2) (aD (tCB (eW K) (aD (aK 4) aS)) aS))) aM)))) (aU (gD (tCB (eW K) (aD (aK 2) aS))) aM)))
theorem kU (F:Fun K "_law_gany" "_law_gany" (top 21) f fd)(B:mB mg)    {bM:Sp}(cO:Def P w K mg base "_law_glength" 3 ["tape"] bM)  {sp:Sp}(len:∀ vs H Q E,sp vs H Q E→vs.length=2)
  (rd:∀ vs H Q E,sp vs H Q E→iC K  bM { nx:=fun _ H'=>Q .non H',rt:=Q } (aW ["tape","many","rows","i","row"] vs) H):FnOk P w K mg base CX0 4 f fd ["tape","many"] sp:=by
 refine F.ok fW len (fun cdv A outer s H vs Q E hr h=>⟨_,?_,rd vs H Q E h⟩)
 have nd:=fW.nd
 exact (@aA _ _ _ _ _ (@bF _ _ 2 _ _ _ _ nd rfl (Or.inl rfl) (@gS _ _ _ _ aC) (by rfl) (by first | exact .inl rfl | exact .inr rfl | assumption)) (@aA _ _ _ _ _ (lS PassesOwn.never rfl (cQ rfl B.range (@aB _ _ _ _ _ _ (pv 1) aC)) (bG (i:=3) nd rfl (Or.inl rfl)) (@aA _ _ _ _ _ (oD (i:=4) nd rfl (Or.inl rfl) (N':=["j","tape"]) (ix:=[none,some 0]) rfl rfl rfl (cQ rfl B.range (@aB _ _ _ _ _ _ (pv 1) aC)) (fun _ _ _=>(bG (i:=0) (show (["j","tape"]:List Str).Nodup from by decide +kernel) rfl (Or.inl rfl))) (fun _ _ _ => .nil) (fun _ _ _ _=>(cU rfl (bQ (cO.mono (by decide)) hr rfl (@aB _ _ _ _ _ _ (pv 1) aC)) rfl))) (@aA _ _ _ _ _ (kR aH (kW (pv 4) (pv 3) eN)) (@aA _ _ _ _ _ (jP (eI (K:=K) rfl PySem.F.plainAttrs_list PySem.F.slot_list_append PySem.F.type_list_append dC (pv 2) (@cE _ _ _ _ _ _ _ _ (aR (bO (K:=K) rfl) rfl B.tuple cD (@aB _ _ _ _ _ _ (pv 4) aC)) aC))) aF)))) (@aA _ _ _ _ _ (@bE _ _ _ _ (aR (bO (K:=K) rfl) rfl B.tuple cD (@aB _ _ _ _ _ _ (pv 2) aC))) aF)))
theorem fB:aZ ["table"] ["table"] (aG (top 22)):=⟨rfl,rfl,rfl,by decide +kernel,rfl,by decide +kernel,by decide +kernel⟩
noncomputable def fU (K:PySem.W.Frag)   : TS:=(aU (gD (tBM K "str" (pS K) (tC (.str " / ")) (aD (gC [none] (rC K (aK 0)) (aO 0) [] fun acc=>(fG (tBM K "str" (pS K) (tC (.str " ")) (aD (gC [none] (rC K (aK 0)) (aO 0) [] fun acc=>(fG (tCB qI (aD (aK 0) aS)) acc)) aS)) acc)) aS))) aM)
theorem jO (F:Fun K "_law_gtext" "_law_gtext" (top 22) f fd)(B:mB mg)      {sp:Sp}(len:∀ vs H Q E,sp vs H Q E→vs.length=1)
  (rd:∀ vs H Q E,sp vs H Q E→fU K   { nx:=fun _ H'=>Q .non H',rt:=Q } (aW ["table"] vs) H):FnOk P w K mg base CX0 1 f fd ["table"] sp:=by
 refine F.ok fB len (fun cdv A outer s H vs Q E hr h=>⟨_,?_,rd vs H Q E h⟩)
 have nd:=fB.nd
 exact (@aA _ _ _ _ _ (@bE _ _ _ _ (eI (K:=K) rfl PySem.F.plainAttrs_str PySem.F.slot_str_join PySem.F.type_str_join (jG (K:=K) rfl) kQ (bJ (dD (N':=["row"]) (ix:=[none]) rfl rfl rfl (fK (K:=K) rfl (pv 0)) (fun _ _ _=>(bG (i:=0) (show (["row"]:List Str).Nodup from by decide +kernel) rfl (Or.inl rfl))) (fun _ _ _ => .nil) (fun _ _ _ _=>(cU rfl (eI (K:=K) rfl PySem.F.plainAttrs_str PySem.F.slot_str_join PySem.F.type_str_join (jG (K:=K) rfl) kQ (bJ (dD (N':=["number"]) (ix:=[none]) rfl rfl rfl (fK (K:=K) rfl (pv 0)) (fun _ _ _=>(bG (i:=0) (show (["number"]:List Str).Nodup from by decide +kernel) rfl (Or.inl rfl))) (fun _ _ _ => .nil) (fun _ _ _ _=>(cU rfl (aR eE rfl B.str lW (@aB _ _ _ _ _ _ (pv 0) aC)) rfl))) aC)) rfl))) aC))) aF)
theorem dS:aZ ["table","due","turn","told","found"] ["table"] (aG (top 23)):=⟨rfl,rfl,rfl,by decide +kernel,rfl,by decide +kernel,by decide +kernel⟩
noncomputable def eU (K:PySem.W.Frag)  (bU:Sp) (bV:Sp) (bW:Sp):TS:=(aU (cY (cC bU [] E0 (aD (aK 0) aS)) (aO 1)) (aU (vG (mK (aD (tC (.int 2)) aS)) (aO 2) (aU (cY (cC bW [] E0 (aD (aK 0) aS)) (aO 3)) (aU (lD (tOr (qZ (tB (tCB (uN K) (aD (aK 3) (aD (tC (.ty "str")) aS))))) (dA (tOp (uK K) (aK 3) (aK 1)))) (aU (gD (tC (.bl false))) aM) aM) (aU (cY (cC bV [] E0 (aD (aK 1) aS)) (aO 4)) (aU (lD (dA (tOp (uK K) (tCB (rV K) (aD (aK 4) aS)) (tCB (rV K) (aD (aK 0) aS)))) (aU (gD (tC (.bl false))) aM) aM) aM))))) (aU (gD (tC (.bl true))) aM)))
theorem iM (F:Fun K "_law_gright" "_law_gright" (top 23) f fd)(B:mB mg)    {bU:Sp}(dM:Def P w K mg base "_law_gtext" 1 ["table"] bU){bV:Sp}(dN:Def P w K mg base "read_table" 5 ["text"] bV){bW:Sp}(dO:Def P w K mg base "show_table" 1 ["table"] bW)  {sp:Sp}(len:∀ vs H Q E,sp vs H Q E→vs.length=1)
  (rd:∀ vs H Q E,sp vs H Q E→eU K  bU bV bW { nx:=fun _ H'=>Q .non H',rt:=Q } (aW ["table","due","turn","told","found"] vs) H):FnOk P w K mg base CX0 6 f fd ["table"] sp:=by
 refine F.ok dS len (fun cdv A outer s H vs Q E hr h=>⟨_,?_,rd vs H Q E h⟩)
 have nd:=dS.nd
 exact (@aA _ _ _ _ _ (@bF _ _ 1 _ _ _ _ nd rfl (Or.inl rfl) (bQ (dM.mono (by decide)) hr rfl (@aB _ _ _ _ _ _ (pv 0) aC)) (by rfl) (by first | exact .inl rfl | exact .inr rfl | assumption)) (@aA _ _ _ _ _ (lS PassesOwn.never rfl (cQ rfl B.range (@bD _ _ _ _ _ _ _ aH aC)) (bG (i:=2) nd rfl (Or.inl rfl)) (@aA _ _ _ _ _ (@bF _ _ 3 _ _ _ _ nd rfl (Or.inl rfl) (bQ (dO.mono (by decide)) hr rfl (@aB _ _ _ _ _ _ (pv 0) aC)) (by rfl) (by first | exact .inl rfl | exact .inr rfl | assumption)) (@aA _ _ _ _ _ (@eG _ _ _ _ _ _ _ _ (PW.pt (pB (eJ (fV (aL (dH (K:=K) rfl) rfl B.isi lU (@aB _ _ _ _ _ _ (pv 3) (@aB _ _ _ _ _ _ (hZ (v := .ty "str") rfl B.str lW rfl) aC))))) (nM (bN (kJ (K:=K) rfl hr) (pv 3) (pv 1) (bA _))))) (@aA _ _ _ _ _ (@bE _ _ _ _ oH) aF) aF) (@aA _ _ _ _ _ (@bF _ _ 4 _ _ _ _ nd rfl (Or.inl rfl) (bQ (dN.mono (by decide)) hr rfl (@aB _ _ _ _ _ _ (pv 1) aC)) (by rfl) (by first | exact .inl rfl | exact .inr rfl | assumption)) (@aA _ _ _ _ _ (@eG _ _ _ _ _ _ _ _ (bN (kJ (K:=K) rfl hr) (aL (iU (K:=K) rfl hr) rfl B.repr qO (@aB _ _ _ _ _ _ (pv 4) aC)) (aL (iU (K:=K) rfl hr) rfl B.repr qO (@aB _ _ _ _ _ _ (pv 0) aC)) (bA _)) (@aA _ _ _ _ _ (@bE _ _ _ _ oH) aF) aF) aF))))) (@aA _ _ _ _ _ (@bE _ _ _ _ oH) aF)))
theorem sZ:aZ ["script","tape","turn","rows","i"] ["script"] (aG (top 24)):=⟨rfl,rfl,rfl,by decide +kernel,rfl,by decide +kernel,by decide +kernel⟩
noncomputable def vW (K:PySem.W.Frag)  (cJ:Sp) (aN:Sp) (bH:Sp):TS:=(aU (cY (rW (aD (tCB (xC K) (aD (tSl (yU K) (aK 0) pT (wS (tC (.int 63)))) aS)) (aD (tC (.int 0)) (aD (tC (.int 0)) aS)))) (aO 1)) (aU (vG (mK (aD (tC (.int 5)) aS)) (aO 2) (aU (lD (qZ (tB (cC bH [] E0 (aD (cC cJ [] E0 (aD (aK 1) (aD (tOp (dQ K) (tC (.int 1)) (cC aN [] E0 (aD (aK 1) (aD (tC (.int 8)) aS)))) aS))) aS)))) (aU (gD (tC (.bl false))) aM) aM) aM)) (aU (cY (rW aS) (aO 3)) (aU (vG (mK (aD (tC (.int 8)) aS)) (aO 4) (aU (qT (tBM K "list" gW (aK 3) (aD (tCB (eW K) (aD (gC [none,some 4] (mK (aD (tC (.int 8)) aS)) (aO 0) [] fun acc=>(fG (tOp gN (tOp xJ (tC (.int 10)) (tC (.int 6))) (tCB wE (aD (tOp (uK K) (aK 1) (aK 0)) aS))) acc)) aS)) aS))) aM)) (aU (gD (cC bH [] E0 (aD (tCB (eW K) (aD (aK 3) aS)) aS))) aM)))))
theorem wV (F:Fun K "law" "law" (top 24) f fd)(B:mB mg)    {cJ:Sp}(eC:Def P w K mg base "_law_gany" 4 ["tape","many"] cJ){aN:Sp}(bC:Def P w K mg base "_law_gdraw" 2 ["tape","many"] aN){bH:Sp}(bX:Def P w K mg base "_law_gright" 6 ["table"] bH)  {sp:Sp}(len:∀ vs H Q E,sp vs H Q E→vs.length=1)
  (rd:∀ vs H Q E,sp vs H Q E→vW K  cJ aN bH { nx:=fun _ H'=>Q .non H',rt:=Q } (aW ["script","tape","turn","rows","i"] vs) H):FnOk P w K mg base CX0 7 f fd ["script"] sp:=by
 refine F.ok sZ len (fun cdv A outer s H vs Q E hr h=>⟨_,?_,rd vs H Q E h⟩)
 have nd:=sZ.nd
 exact (@aA _ _ _ _ _ (@bF _ _ 1 _ _ _ _ nd rfl (Or.inl rfl) (@gS _ _ _ _ (@cE _ _ _ _ _ _ _ _ (aR (oI (K:=K) rfl rfl) rfl B.list tZ (@cF _ _ _ _ _ _ _ (sC (xZ (K:=K) rfl) (pv 0) tW (tR aH)) aC)) (@bD _ _ _ _ _ _ _ aH (@bD _ _ _ _ _ _ _ aH aC)))) (by rfl) (by first | exact .inl rfl | exact .inr rfl | assumption)) (@aA _ _ _ _ _ (lS PassesOwn.never rfl (cQ rfl B.range (@bD _ _ _ _ _ _ _ aH aC)) (bG (i:=2) nd rfl (Or.inl rfl)) (@aA _ _ _ _ _ (@eG _ _ _ _ _ _ _ _ (eJ (fV (bQ (bX.mono (by decide)) hr rfl (@cE _ _ _ _ _ _ _ _ (bQ (eC.mono (by decide)) hr rfl (@aB _ _ _ _ _ _ (pv 1) (@rM _ _ _ _ _ _ _ _ (@bB _ _ _ _ _ _ _ _ (bS (K:=K) rfl) aH (bQ (bC.mono (by decide)) hr rfl (@aB _ _ _ _ _ _ (pv 1) (@bD _ _ _ _ _ _ _ aH aC)))) aC))) aC)))) (@aA _ _ _ _ _ (@bE _ _ _ _ oH) aF) aF) aF)) (@aA _ _ _ _ _ (@bF _ _ 3 _ _ _ _ nd rfl (Or.inl rfl) (@gS _ _ _ _ aC) (by rfl) (by first | exact .inl rfl | exact .inr rfl | assumption)) (@aA _ _ _ _ _ (lS PassesOwn.never rfl (cQ rfl B.range (@bD _ _ _ _ _ _ _ aH aC)) (bG (i:=4) nd rfl (Or.inr rfl)) (@aA _ _ _ _ _ (jP (eI (K:=K) rfl PySem.F.plainAttrs_list PySem.F.slot_list_append PySem.F.type_list_append dC (pv 3) (@cE _ _ _ _ _ _ _ _ (aR (bO (K:=K) rfl) rfl B.tuple cD (bJ (dD (N':=["j","i"]) (ix:=[none,some 4]) rfl rfl rfl (cQ rfl B.range (@bD _ _ _ _ _ _ _ aH aC)) (fun _ _ _=>(bG (i:=0) (show (["j","i"]:List Str).Nodup from by decide +kernel) rfl (Or.inl rfl))) (fun _ _ _ => .nil) (fun _ _ _ _=>(cU rfl (@bB _ _ _ _ _ _ _ _ cS (@bB _ _ _ _ _ _ _ _ pL aH aH) (aR nS rfl B.int mW (bJ (cK (kJ (K:=K) rfl hr) (pv 1) (pv 0) (bA _)) aC))) rfl))) aC)) aC))) aF)) (@aA _ _ _ _ _ (@bE _ _ _ _ (bQ (bX.mono (by decide)) hr rfl (@cE _ _ _ _ _ _ _ _ (aR (bO (K:=K) rfl) rfl B.tuple cD (@aB _ _ _ _ _ _ (pv 3) aC)) aC))) aF)))))
end
end K83
namespace K83
open PySem L2
noncomputable def whD:Dt→Bool
 | .int _=>true
 | _=>false
noncomputable def xI:Dt→Bool
 | .tup ds=>ds.all whD
 | _=>false
noncomputable def spW (K:PySem.W.Frag):Sp:=fun vs H Q _=>∃ (v:V) (d:Dt),vs=[v]∧Sh K H d v∧∀ H',Same H H'→Q (.bl (whD d)) H'
noncomputable def xR (K:PySem.W.Frag):Sp:=fun vs H Q _=>∃ (v:V) (d:Dt),vs=[v]∧Sh K H d v∧(∀ ds,d = .tup ds→ds.length≤1000)∧∀ H',Same H H'→Q (.bl (xI d)) H'
theorem jV {α β:Type}(f:α→β)(e:α):∀ ds:List α,(List.range ds.length).flatMap (fun i=>[f (ds.getD i e)])=ds.map f
 | []=>rfl
 | d :: ds=>by
  rw [List.length_cons,List.range_succ_eq_map,List.flatMap_cons,List.flatMap_map,List.map_cons,← jV f e ds]
  rfl
section
variable {K:PySem.W.Frag}
theorem rF:∀ vs H Q E,spW K vs H Q E→iW K { nx:=fun _ H'=>Q .non H',rt:=Q } (aW ["thing"] vs) H:=by
 intro vs H Q E h
 obtain ⟨v,d,rfl,hS,q⟩:=h
 have q0:=q H (Same.refl _)
 refine ⟨_,rfl,v,d,"int",rfl,by decide,hS,_,rfl,?_⟩
 by_cases hi:uO d "int" = true
 ·rw [if_pos hi]
  refine ⟨_,rfl,v,d,"bool",rfl,by decide,hS,_,rfl,?_⟩
  cases d <;> first | exact q0 | (exact absurd hi (by simp [uO]))
 ·rw [if_neg hi]
  cases d <;> first | exact q0 | (exact absurd (by rfl) hi)
theorem pV:∀ vs H Q E,xR K vs H Q E→fZ K (spW K) { nx:=fun _ H'=>Q .non H',rt:=Q } (aW ["thing"] vs) H:=by
 intro vs H Q E h
 obtain ⟨v,d,rfl,hS,hz,q⟩:=h
 refine ⟨_,rfl,v,d,"tuple",rfl,by decide,hS,_,rfl,?_⟩
 by_cases hi:uO d "tuple" = true
 ·rw [if_pos hi]
  cases d with
  | tup ds=>
   obtain ⟨a,xs,rfl,ha,hL⟩:=id hS
   have hl:ds.length=xs.length:=hL.length
   refine ⟨_,rfl,a,rfl, .inr ⟨⟨xs,ha⟩,fun acc hacc=>?_⟩⟩
   refine cT [0] ((ds.map whD).map V.bl) hacc (by rw [List.length_map,List.length_map];exact Nat.le_trans (hz ds rfl) (by decide)) ?_ fun σ' H' sm hl'=>⟨acc,ds.map whD,rfl, .inl (.of hl'),?_⟩
   ·refine Emits.cast (L:=(List.range xs.length).flatMap fun i=>[V.bl (whD (ds.getD i .non))]) ?_ (by rw [← hl,jV (fun d=>V.bl (whD d)),List.map_map];rfl)
    refine jL (by decide) (by show 0<1;decide) (fun H' sx=>(bR hacc sx).tup ha) fun i x σ1 H1 hx l1 ag1 s1 sx1 _=>?_
    refine eY fun Q hQ=>?_
    have hi':i<ds.length:=by rw [hl];exact (List.getElem?_eq_some_iff.mp hx).1
    obtain ⟨y,hy,sy⟩:=hL.get (j:=i) (d:=ds.getD i .non) (by rw [List.getD_eq_getElem?_getD];simp [hi'])
    obtain rfl:y=x:=by rw [hx] at hy;cases hy;rfl
    exact ⟨_,s1,y,_,rfl,sy.same (bR hacc sx1),hQ⟩
   ·have:=q H' sm
    rw [show xI (.tup ds)=ds.all whD from rfl] at this
    rw [List.all_map]
    exact this
  | _=>exact absurd hi (by simp [uO])
 ·rw [if_neg hi]
  have q0:=q H (Same.refl _)
  cases d <;> first | exact q0 | (exact absurd (by rfl) hi)
end
noncomputable def dJ:List Dt→List Int
 | []=>[]
 | .int i :: ds=>i :: dJ ds
 | _ :: ds=>0 :: dJ ds
theorem pR:∀ {ds:List Dt},ds.all whD=true→ds=(dJ ds).map Dt.int
 | [],_=>rfl
 | d :: ds,h=>by
  rw [List.all_cons,Bool.and_eq_true] at h
  cases d with
  | int i=>rw [dJ,List.map_cons,← pR h.2]
  | _=>exact absurd h.1 (by simp [whD])
theorem jA:∀ ns:List Int,dJ (ns.map Dt.int)=ns
 | []=>rfl
 | n :: ns=>by rw [List.map_cons,dJ,jA ns]
noncomputable def vA (n own:Nat) (ns:List Int):Bool:=decide (ns.length=n) && (decide (ns.getD own 0=0) && (ns.all (fun i=>decide (0≤i)) && ns.all fun i=>decide (i≤1000000)))
noncomputable def rB (n own:Nat):Dt→Bool
 | .tup ds=>ds.all whD && vA n own (dJ ds)
 | _=>false
noncomputable def zI:Dt→Bool
 | .tup ds=>(decide (1≤ds.length) && decide (ds.length≤8)) && (List.range ds.length).all fun i=>rB ds.length i (ds.getD i .non)
 | _=>false
noncomputable def rS (K:PySem.W.Frag):Sp:=fun vs H Q _=>∃ (v:V) (d:Dt) (own n:Nat),vs=[v, .int (own:Int), .int (n:Int)]∧Sh K H d v∧(∀ ds,d = .tup ds→ds.length≤1000)∧own<n∧∀ H',Same H H'→Q (.bl (rB n own d)) H'
theorem tU {ns:List Int}{m:Int}(h:m∈ns)(h':∀ k∈ns,m≤k):decide (0≤m)=ns.all fun i=>decide (0≤i):=by
 by_cases c:0≤m
 ·rw [decide_eq_true c]
  exact (List.all_eq_true.mpr fun k hk=>decide_eq_true (by have:=h' k hk;omega)).symm
 ·rw [decide_eq_false c]
  exact Eq.symm (Bool.eq_false_iff.mpr fun e=>c (of_decide_eq_true (List.all_eq_true.mp e m h)))
theorem vD {ns:List Int}{m:Int}(h:m∈ns)(h':∀ k∈ns,k≤m):decide (m≤1000000)=ns.all fun i=>decide (i≤1000000):=by
 by_cases c:m≤1000000
 ·rw [decide_eq_true c]
  exact (List.all_eq_true.mpr fun k hk=>decide_eq_true (by have:=h' k hk;omega)).symm
 ·rw [decide_eq_false c]
  exact Eq.symm (Bool.eq_false_iff.mpr fun e=>c (of_decide_eq_true (List.all_eq_true.mp e m h)))
section
variable {K:PySem.W.Frag}
theorem wU:∀ vs H Q E,rS K vs H Q E→dX K (xR K) { nx:=fun _ H'=>Q .non H',rt:=Q } (aW ["thing","own","many"] vs) H:=by
 intro vs H Q E h
 obtain ⟨v,d,own,n,rfl,hS,hz,ho,q⟩:=h
 refine ⟨_,rfl,v,d,rfl,hS,hz,fun H1 s1=>⟨_,rfl,?_⟩⟩
 cases hw:xI d with
 | false=>
  refine xN ?_
  have:=q H1 s1
  rw [show rB n own d=false by cases d <;> first | rfl | (simp only [rB];rw [show List.all _ whD=false from hw];rfl)] at this
  exact this
 | true=>
  refine rA ?_
  cases d with
  | tup ds=>
   have hd:=pR hw
   have hq:∀ H',Same H H'→Q (.bl (vA n own (dJ ds))) H':=fun H' e=>by
    have:=q H' e
    rw [show rB n own (.tup ds)=(ds.all whD && vA n own (dJ ds)) from rfl,show ds.all whD=true from hw,Bool.true_and] at this
    exact this
   generalize hns:dJ ds=ns at *
   subst hd
   obtain ⟨a,xs,rfl,ha,hL⟩:=id hS
   obtain rfl:=hL.of_ints
   have ha1:=s1.tup ha
   refine ⟨_,rfl,a,_,rfl, .inr ha1,_,rfl, .int _, .int _,Nat.zero_le _,rfl,rfl,_,rfl,?_⟩
   rw [nY,List.length_map]
   by_cases hn:ns.length=n
   ·refine eK (by rw [decide_eq_true (by omega)];rfl) ?_
    have hgo:ns[own]?=some (ns.getD own 0):=mP (by omega)
    refine ⟨_,rfl,_,rfl,ixT ha1 (j:=own) (v := .int (ns.getD own 0)) (by rw [List.getElem?_map,hgo];rfl) ⟨.int _, .int _,Nat.zero_le _,rfl,rfl,_,rfl,?_⟩⟩
    have e1:eqD (.int (ns.getD own 0)) (.int 0)=decide (ns.getD own 0=0):=by rw [eqD];rfl
    rw [e1]
    have hq1:=hq H1 s1
    unfold vA at hq1
    rw [decide_eq_true hn,Bool.true_and] at hq1
    by_cases h0:ns.getD own 0=0
    ·rw [decide_eq_true h0,Bool.true_and] at hq1
     refine eD (decide_eq_true h0) ?_
     have hne:ns≠[]:=fun e=>by rw [e] at hn;simp at hn;omega
     refine ⟨_,rfl, .inl ⟨a,ns,rfl, .inr ha1,hne,fun m m1 m2=>⟨_,_,rfl,rfl,_,rfl,?_⟩⟩⟩
     rw [tU m1 m2]
     cases hc:ns.all fun i=>decide (0≤i) with
     | false=>
      rw [hc,Bool.false_and] at hq1
      exact rA hq1
     | true=>
      rw [hc,Bool.true_and] at hq1
      refine xN ⟨_,rfl,a,ns,rfl, .inr ha1,hne,fun m' k1 k2=>⟨_,_,rfl,rfl,?_⟩⟩
      rw [← vD k1 k2] at hq1
      exact hq1
    ·rw [decide_eq_false h0,Bool.false_and] at hq1
     exact eK (decide_eq_false h0) hq1
   ·refine eD (by rw [decide_eq_false (by omega)];rfl) ?_
    have hq1:=hq H1 s1
    unfold vA at hq1
    rw [decide_eq_false hn,Bool.false_and] at hq1
    exact hq1
  | _=>exact absurd hw (by simp [xI])
noncomputable def mZ (K:PySem.W.Frag):Sp:=fun vs H Q _=>∃ (v:V) (d:Dt),vs=[v]∧Sh K H d v∧nE d=true∧∀ H',Same H H'→Q (.bl (zI d)) H'
theorem sD {n:Nat}{f:Nat→Bool}:((List.range n).flatMap fun i=>[V.bl (f i)])=((List.range n).map f).map V.bl:=by
 induction (List.range n) with
 | nil=>rfl
 | cons a l ih=>rw [List.flatMap_cons,ih];rfl
theorem qL:∀ vs H Q E,mZ K vs H Q E→jE K (rS K) { nx:=fun _ H'=>Q .non H',rt:=Q } (aW ["thing"] vs) H:=by
 intro vs H Q E h
 obtain ⟨v,d,rfl,hS,hz,q⟩:=h
 refine ⟨_,rfl,v,d,"tuple",rfl,by decide,hS,_,rfl,?_⟩
 cases d with
 | tup ds=>
  refine rA ?_
  obtain ⟨a,xs,rfl,ha,hL⟩:=id hS
  have hl:ds.length=xs.length:=hL.length
  obtain ⟨h64,hth⟩:=nH hz
  have hq:∀ H',Same H H'→Q (.bl ((decide (1≤ds.length) && decide (ds.length≤8)) && (List.range ds.length).all fun i=>rB ds.length i (ds.getD i .non))) H':=q
  refine ⟨_,rfl,a,xs,rfl, .inr ha,_,_,rfl,rfl,_,rfl,?_⟩
  by_cases h1:1≤ds.length
  ·refine eD (decide_eq_true (by omega)) ⟨_,_,rfl,rfl,_,rfl,?_⟩
   by_cases h8:ds.length≤8
   ·refine eK (by rw [decide_eq_true (by omega)];rfl) ?_
    rw [decide_eq_true h1,decide_eq_true h8,Bool.true_and,Bool.true_and] at hq
    refine ⟨_,rfl,a,false,rfl,⟨xs,ha⟩,fun acc hacc=>?_⟩
    refine cT [0,1] (((List.range ds.length).map fun i=>rB ds.length i (ds.getD i .non)).map V.bl) hacc (by rw [List.length_map,List.length_map,List.length_range];omega) ?_ fun σ' H' sm hl'=>⟨acc,(List.range ds.length).map fun i=>rB ds.length i (ds.getD i .non),rfl, .inl (.of hl'),?_⟩
    ·refine Emits.cast (L:=(List.range xs.length).flatMap fun i=>[V.bl (rB ds.length i (ds.getD i .non))]) ?_ (by rw [← hl,sD])
     refine qE (b:=false) (by decide) (by decide) (by decide) (by show 0<3;decide) (by show 1<3;decide) (fun H' sx=>(bR hacc sx).tup ha) fun i x σ1 H1 hx l1 ag1 s0 s1 sx1 _=>?_
     refine eY fun Q hQ=>?_
     have hi':i<ds.length:=by rw [hl];exact (List.getElem?_eq_some_iff.mp hx).1
     obtain ⟨y,hy,sy⟩:=hL.get (j:=i) (d:=ds.getD i .non) (by rw [List.getD_eq_getElem?_getD];simp [hi'])
     obtain rfl:y=x:=by rw [hx] at hy;cases hy;rfl
     have t2:σ1[2]?=some (some (.ref a)):=(ag1 2 (by decide)).trans rfl
     have sm1:=bR hacc sx1
     refine ⟨_,s1,_,s0,_,t2,a,xs,rfl, .inr (sm1.tup ha),y,ds.getD i .non,i,ds.length,by rw [hl];rfl,sy.same sm1,fun es ee=>?_,hi',hQ⟩
     have hm:ds.getD i .non∈ds:=by rw [List.getD_eq_getElem?_getD,List.getElem?_eq_getElem hi'];exact List.getElem_mem hi'
     have:=(nH (ee ▸ hth _ hm)).1
     omega
    ·rw [List.all_map]
     exact hq H' sm
   ·refine eD (by rw [decide_eq_false (by omega)];rfl) ?_
    have:=hq H (Same.refl _)
    rw [decide_eq_false h8,Bool.and_false,Bool.false_and] at this
    exact this
  ·refine eK (decide_eq_false (by omega)) ⟨_,rfl,?_⟩
   have:=hq H (Same.refl _)
   rw [decide_eq_false h1,Bool.false_and,Bool.false_and] at this
   exact this
 | _=>exact xN (q H (Same.refl _))
end
end K83
namespace K83
open PySem L2
theorem nK {a m j:Int}(h0:0<m)(h1:m≤4611686018427387904):CMul (a % m) j := .inl ⟨by have:=Int.emod_nonneg a (show m≠0 by omega);omega,by have:=Int.emod_lt_of_pos a h0;omega⟩
noncomputable def zJ (l:Addr) (k:Nat) (z:Int):HO := .lst [.ref l, .int (k:Int), .int z]
noncomputable def PenAt (H:Hp) (p l:Addr) (ns:List Int) (k:Nat) (z:Int):Prop:=H p=some (zJ l k z)∧H l=some (.lst (ns.map V.int))∧l≠p
noncomputable def Pen (H:Hp) (p l:Addr) (ns:List Int):Prop:=∃ k z,PenAt H p l ns k z
theorem PenAt.put {H:Hp}{p l:Addr}{ns:List Int}{k k':Nat}{z z':Int}(h:PenAt H p l ns k z):PenAt (upd H p (zJ l k' z')) p l ns k' z':=⟨aE,by rw [aJ h.2.2];exact h.2.1,h.2.2⟩
theorem PenAt.x {H H':Hp}{p l:Addr}{ns:List Int}{k:Nat}{z:Int}(h:PenAt H p l ns k z)(s:Same H H'):PenAt H' p l ns k z:=⟨s _ _ h.1,s _ _ h.2.1,h.2.2⟩
theorem Pen.x {H H':Hp}{p l:Addr}{ns:List Int}(h:Pen H p l ns)(s:Same H H'):Pen H' p l ns:=by
 obtain ⟨k,z,h⟩:=h
 exact ⟨k,z,h.x s⟩
theorem Pen.ne {H:Hp}{p l:Addr}{ns:List Int}(h:Pen H p l ns){x:Addr}(hx:H x=none):x≠p∧x≠l:=by
 obtain ⟨k,z,h⟩:=h
 exact ⟨fun e=>(by rw [e,h.1] at hx;cases hx),fun e=>(by rw [e,h.2.1] at hx;cases hx)⟩
theorem Pen.upd {H:Hp}{p l:Addr}{ns:List Int}(h:Pen H p l ns){x:Addr}{o:HO}(h1:x≠p)(h2:x≠l):Pen (upd H x o) p l ns:=by
 obtain ⟨k,z,h⟩:=h
 exact ⟨k,z,by rw [aJ (Ne.symm h1)];exact h.1,by rw [aJ (Ne.symm h2)];exact h.2.1,h.2.2⟩
section
variable {K:PySem.W.Frag}
noncomputable def eZ:Sp:=fun vs H Q _=>∃ (c:Int) (k:Nat),vs=[.int c, .int (k:Int)]∧∀ v:Int,Q (.int v) H
theorem pI:∀ vs H Q E,eZ vs H Q E→dU K { nx:=fun _ H'=>Q .non H',rt:=Q } (aW ["cell","at","one","two","three"] vs) H:=by
 intro vs H Q E h
 obtain ⟨c,k,rfl,q⟩:=h
 refine ⟨_,rfl,_,_,rfl,rfl,by show (0:Int)<2147483587;decide, .inr ⟨by decide,by decide⟩,_,rfl, .inr ⟨by decide,by decide⟩,_,_,rfl,rfl,by show (0:Int)<2147483629;decide,?_⟩
 generalize hx:(c % 2147483587*48271+(k:Int)*69069+11)=x
 have hb:(x % 2147483629).natAbs<2 ^ 64:=by
  have:=Int.emod_nonneg x (show (2147483629:Int)≠0 by decide)
  have:=Int.emod_lt_of_pos x (show (0:Int)<2147483629 by decide)
  omega
 refine ⟨_,rfl,_,_,rfl,rfl,⟨by decide,by decide,?_⟩,_,_,rfl,rfl,by show (0:Int)<2147483647;decide,_,rfl, .inl ⟨by decide,by decide⟩,_,rfl,_,_,rfl,rfl,by show (0:Int)<65521;decide,_,_,rfl,rfl,by show (0:Int)<2147483563;decide,?_⟩
 ·first | exact hb | (rw [hx];exact hb)
 refine ⟨_,rfl,_,rfl,nK (by decide) (by decide),_,rfl,_,_,rfl,rfl,by show (0:Int)<2147483549;decide,?_⟩
 exact ⟨_,rfl, .inr ⟨by decide,by decide⟩,_,rfl, .inr ⟨by decide,by decide⟩,_,rfl,q _⟩
noncomputable def hJ:Sp:=fun vs H Q _=>∃ (p l:Addr) (ns:List Int) (m:Nat),vs=[.ref p, .int (m:Int)]∧Pen H p l ns∧1≤m∧m≤10000000∧∀ (r:Nat) H',r<m→Pen H' p l ns→SameX p H H'→Q (.int (r:Int)) H'
theorem uM:∀ vs H Q E,hJ vs H Q E→fQ K eZ { nx:=fun _ H'=>Q .non H',rt:=Q } (aW ["tape","many","at","cell","drawn"] vs) H:=by
 intro vs H Q E h
 obtain ⟨p,l,ns,m,rfl,⟨k,z,hP⟩,h1,hm,q⟩:=h
 have rest:∀ (G:Hp) (k':Nat) (z':Int) x2 x3,PenAt G p l ns k' z'→SameX p H G→aU (cY (tOp oK (tOp (fY K) (aK 0) (tC (.int 2))) (aK 1)) (aO 4)) (aU (cY (tOp xX (tOp (fY K) (aK 0) (tC (.int 2))) (aK 1)) (qV (aK 0) (tC (.int 2)) iE)) (aU (gD (aK 4)) aM)) { nx:=fun _ H'=>Q .non H',rt:=Q } [some (.ref p),some (.int (m:Int)),x2,x3,none] G:=fun G k' z' x2 x3 hG sx=>by
  obtain ⟨r,er,hr⟩:=oM (c:=z') (n:=m) h1
  refine ⟨_,rfl,ixL (j:=2) (.of hG.1) rfl ⟨_,rfl,nA h1 er ?_⟩⟩
  refine ⟨_,rfl,ixL (j:=2) (.of hG.1) rfl ⟨_,rfl,_,_,rfl,rfl,⟨by omega,by omega⟩,_,rfl,p,_,2,2,rfl,rfl,hG.1,rfl,?_⟩⟩
  exact ⟨_,rfl,q r _ hr ⟨k',z' / (m:Int),hG.put⟩ (sx.trans (SameX.put _))⟩
 refine ⟨_,rfl,ixL (j:=2) (.of hP.1) rfl ⟨_,rfl,_,_,rfl,rfl,_,rfl,zL (fun c1=>?_) fun c1=>?_⟩⟩
 ·have last:∀ c:Int,aU (cY (tOp (dQ K) (aK 2) (tC (.int 1))) (qV (aK 0) (tC (.int 1)) iE)) (aU (cY (aK 3) (qV (aK 0) (tC (.int 2)) iE)) (aU (lD (dA (tOp yLt (aK 3) (tOp xJ (tC (.int 10)) (tC (.int 18))))) (aU (cY (cC eZ [] E0 (aD (aK 3) (aD (aK 2) aS))) (qV (aK 0) (tC (.int 2)) iE)) aM) aM) aM)) { nx:=aU (cY (tOp oK (tOp (fY K) (aK 0) (tC (.int 2))) (aK 1)) (aO 4)) (aU (cY (tOp xX (tOp (fY K) (aK 0) (tC (.int 2))) (aK 1)) (qV (aK 0) (tC (.int 2)) iE)) (aU (gD (aK 4)) aM)) { nx:=fun _ H'=>Q .non H',rt:=Q },rt:=Q } [some (.ref p),some (.int (m:Int)),some (.int (k:Int)),some (.int c),none] H:=fun c=>by
   refine ⟨_,rfl,_,rfl,p,_,1,1,rfl,rfl,hP.1,rfl,?_⟩
   refine ⟨_,rfl,_,rfl,p,_,2,2,rfl,rfl,aE,rfl,?_⟩
   have hG:PenAt (upd (upd H p (.lst ([V.ref l, .int (k:Int), .int z].set 1 (.int ((k:Int)+1))))) p (.lst (([V.ref l, .int (k:Int), .int z].set 1 (.int ((k:Int)+1))).set 2 (.int c)))) p l ns (k+1) c:=by
    exact (hP.put (k':=k+1) (z':=z)).put (k':=k+1) (z':=c)
   have sG:SameX p H (upd (upd H p (.lst ([V.ref l, .int (k:Int), .int z].set 1 (.int ((k:Int)+1))))) p (.lst (([V.ref l, .int (k:Int), .int z].set 1 (.int ((k:Int)+1))).set 2 (.int c)))):=(SameX.put _).trans (SameX.put _)
   generalize upd (upd H p (.lst ([V.ref l, .int (k:Int), .int z].set 1 (.int ((k:Int)+1))))) p (.lst (([V.ref l, .int (k:Int), .int z].set 1 (.int ((k:Int)+1))).set 2 (.int c)))=G at hG sG ⊢
   refine ⟨_,rfl,10,18,rfl,rfl,⟨by decide,by decide,by decide⟩,_,_,rfl,rfl,_,rfl,zL (fun c2=>?_) fun c2=>?_⟩
   ·refine ⟨_,rfl,_,rfl,c,k,rfl,fun v=>⟨_,rfl,p,_,2,2,rfl,rfl,hG.1,rfl,?_⟩⟩
    exact rest _ (k+1) v _ _ (hG.put (k':=k+1) (z':=v)) (sG.trans (SameX.put _))
   ·exact rest G (k+1) c _ _ hG sG
  refine ⟨_,rfl,ixL (j:=1) (.of hP.1) rfl ?_⟩
  refine ⟨_,rfl, .inl ⟨by decide,by decide⟩,?_⟩
  refine ⟨_,rfl,_,rfl,ixL (j:=0) (.of hP.1) rfl ⟨l,_,rfl, .inl (.of hP.2.1),_,_,rfl,rfl,_,rfl,?_⟩⟩
  rw [List.length_map]
  by_cases c2:k<ns.length
  ·refine eD (decide_eq_true (by omega)) ?_
   refine ⟨_,rfl,ixL (j:=0) (.of hP.1) rfl ⟨_,rfl,ixL (j:=k) (v := .int (ns.getD k 0)) (.of hP.2.1) (by rw [List.getElem?_map,L2.mP c2];rfl) ?_⟩⟩
   exact last _
  ·refine eK (decide_eq_false (by omega)) ?_
   refine ⟨_,rfl,ixL (j:=0) (.of hP.1) rfl ⟨l,_,rfl, .inl (.of hP.2.1),_,_,rfl,rfl,_,rfl,?_⟩⟩
   rw [List.length_map]
   by_cases c3:0<ns.length
   ·refine eD (decide_eq_true (by omega)) ?_
    obtain ⟨j,ej,hj⟩:=oM (c:=(k:Int)) (n:=ns.length) c3
    refine ⟨_,rfl,ixL (j:=0) (.of hP.1) rfl ⟨_,rfl,_,rfl,ixL (j:=0) (.of hP.1) rfl ⟨l,_,rfl, .inl (.of hP.2.1),?_⟩⟩⟩
    rw [List.length_map]
    refine nA c3 ej ?_
    refine ixL (j:=j) (v := .int (ns.getD j 0)) (.of hP.2.1) (by rw [List.getElem?_map,L2.mP hj];rfl) ⟨_,_,rfl,rfl,by show (0:Int)<99991;decide,_,rfl,nK (by decide) (by decide),?_⟩
    exact last _
   ·refine eK (decide_eq_false (by omega)) ?_
    exact last _
 ·exact rest H k z _ _ hP (SameX.refl _ _)
theorem zS {Q:VK}{σ:St}{H:Hp}{s:Nat}{p l:Addr}{ns:List Int}{ts:List Nat}{m:Nat}{te:TA}(hs:σ[s]?=some (some (.ref p)))(hP:Pen H p l ns)(hm:ts.length=m)(h1:1≤m)(h2:m≤100)(hte:∀ R:List V→Hp→Prop,R (ts.map vK) H→te σ H R)(hts:∀ t∈ts,1≤t∧t≤10000000)
  (q:∀ (t r:Nat) H',t∈ts→r<t→Pen H' p l ns→SameX p H H'→Q (.int (r:Int)) H') :
  cC hJ [] E0 (aD (aK s) (aD (tOp (fY K) (rW te) (cC hJ [] E0 (aD (aK s) (aD (tC (.int (m:Int))) aS)))) aS)) σ H Q:=by
 refine ⟨_,hs,hte _ ⟨by rw [List.length_map,hm];exact Nat.le_trans h2 (by decide),fun p0 hp0=>⟨_,hs,p,l,ns,m,rfl,hP.x (aP hp0 _),h1,Nat.le_trans h2 (by decide),fun r H1 hr hP1 sx1=>?_⟩⟩⟩
 have e0:H1 p0=some (.lst (ts.map vK)):=sx1 _ _ (hP.ne hp0).1 aE
 have hr':r<ts.length:=by omega
 refine ixL (j:=r) (v:=vK (ts.getD r 0)) (.of e0) (zP hr') ?_
 have hmem:ts.getD r 0∈ts:=by
  rw [List.getD_eq_getElem?_getD,List.getElem?_eq_getElem hr']
  exact List.getElem_mem hr'
 refine ⟨p,l,ns,ts.getD r 0,rfl,hP1,(hts _ hmem).1,(hts _ hmem).2,fun r2 H2 hr2 hP2 sx2=>q _ r2 H2 hmem hr2 hP2 (((aP hp0 _).x.trans sx1).trans sx2)⟩
end
end K83
namespace K83
open PySem L2 PyProof.Rows
noncomputable def Bnd (M:List (List Int)) (n:Nat):Prop:=∀ i j,i<n→j<n→0≤at2 M i j∧at2 M i j≤1000000∧at2 M i i=0
structure Tb (T:List (List Int))(n:Nat):Prop where
 qd:Quad T n
 bd:Bnd T n
 lo:1≤n
 hi:n≤8
theorem Tb.mem {T:List (List Int)}{n:Nat}(t:Tb T n){r:List Int}(hr:r∈T):r.length=n∧∀ x∈r,0≤x∧x≤1000000:=by
 obtain ⟨i,hi,e⟩:=List.getElem_of_mem hr
 have hin:i<n:=by rw [← t.qd.len];exact hi
 obtain ⟨row,e1,e2,e3⟩:=t.qd.get hin
 rw [List.getElem?_eq_getElem hi,e] at e1
 cases e1
 refine ⟨e2,fun x hx=>?_⟩
 obtain ⟨j,hj,ej⟩:=List.getElem_of_mem hx
 have b:=t.bd i j hin (by omega)
 have e:at2 T i j=x:=by
  unfold at2
  rw [e3,List.getD_eq_getElem?_getD,List.getElem?_eq_getElem hj,ej]
  rfl
 rw [e] at b
 exact ⟨b.1,b.2.1⟩
noncomputable def gF (r:List Int):Str:=Txt.join " " (r.map dF)
noncomputable def kE (T:List (List Int)):Str:=Txt.join " / " (T.map gF)
theorem jR {i:Int}(h0:0≤i)(h1:i≤1000000):(dF i).length≤7:=toString_length_le h0 (by decide) (by omega)
theorem wF {r:List Int}(h:∀ x∈r,0≤x∧x≤1000000)(hl:r.length≤8):JoinOk " " (r.map dF)=true:=by
 have hB:∀ y∈r.map dF,y.length≤7:=fun y hy=>by
  obtain ⟨x,hx,rfl⟩:=List.mem_map.mp hy
  exact jR (h x hx).1 (h x hx).2
 unfold JoinOk
 rw [StrLaws.joinFits hB (by rw [List.length_map,show (" " : Str).length=1 from rfl];omega)]
 rfl
theorem pH {r:List Int}(h:∀ x∈r,0≤x∧x≤1000000)(hl:r.length≤8):(gF r).length≤64:=by
 unfold gF Txt.join
 rw [StrLaws.glued_eq_join]
 refine Nat.le_trans (StrLaws.join_length_le _ _) ?_
 have h1:=StrLaws.sumLen_le (B:=7) (r.map dF) fun y hy=>by
  obtain ⟨x,hx,rfl⟩:=List.mem_map.mp hy
  exact jR (h x hx).1 (h x hx).2
 rw [List.length_map] at h1 ⊢
 rw [show (" " : Str).length=1 from rfl]
 omega
theorem wP {T:List (List Int)}{n:Nat}(t:Tb T n):JoinOk " / " (T.map gF)=true:=by
 have hl:=t.qd.len
 have h8:=t.hi
 have hB:∀ y∈T.map gF,y.length≤64:=fun y hy=>by
  obtain ⟨r,hr,rfl⟩:=List.mem_map.mp hy
  have:=t.mem hr
  exact pH this.2 (by omega)
 unfold JoinOk
 rw [StrLaws.joinFits hB (by rw [List.length_map,show (" / " : Str).length=3 from rfl];omega)]
 rfl
theorem uB {T:List (List Int)}{n:Nat}(t:Tb T n):(kE T).length≤1000:=by
 have hl:=t.qd.len
 have h8:=t.hi
 unfold kE Txt.join
 rw [StrLaws.glued_eq_join]
 refine Nat.le_trans (StrLaws.join_length_le _ _) ?_
 have h1:=StrLaws.sumLen_le (B:=64) (T.map gF) fun y hy=>by
  obtain ⟨r,hr,rfl⟩:=List.mem_map.mp hy
  have:=t.mem hr
  exact pH this.2 (by omega)
 rw [List.length_map] at h1 ⊢
 rw [show (" / " : Str).length=3 from rfl]
 omega
theorem lT {α β:Type}(f:α→β)(e:α)(ds:List α):(List.range ds.length).flatMap (fun i=>[f (ds.getD i e)])=ds.map f:=jV f e ds
section
variable {K:PySem.W.Frag}
noncomputable def fR (K:PySem.W.Frag):Sp:=fun vs H Q _=>∃ (v:V) (T:List (List Int)) (n:Nat),vs=[v]∧Sh K H (iI T) v∧Tb T n∧∀ H',Same H H'→Q (.str (kE T)) H'
theorem pP:∀ vs H Q E,fR K vs H Q E→fX K { nx:=fun _ H'=>Q .non H',rt:=Q } (aW ["table"] vs) H:=by
 intro vs H Q E h
 obtain ⟨v,T,n,rfl,hS,tb,q⟩:=h
 obtain ⟨a,xs,rfl,ha,hlen,hrow⟩:=hS.tab
 have hn:=tb.qd.len
 have h8:=tb.hi
 refine ⟨rfl,_,rfl,a,rfl, .inr ⟨⟨xs,ha⟩,fun acc hacc=>?_⟩⟩
 refine cT [0] ((T.map gF).map V.str) hacc (by rw [List.length_map,List.length_map];omega) ?_ fun σ' H' sm hl'=>⟨_,acc,T.map gF,rfl,rfl, .of hl',wP tb,q _ sm⟩
 refine Emits.cast (L:=(List.range xs.length).flatMap fun i=>[V.str (gF (T.getD i []))]) ?_ (by rw [hlen,lT (fun r=>V.str (gF r)),List.map_map];rfl)
 refine jL (by decide) (by show 0<1;decide) (fun H' sx=>(bR hacc sx).tup ha) fun i x σ1 H1 hx l1 ag1 s1 sx1 _=>?_
 refine eY fun Q hQ=>?_
 have hi:i<T.length:=by rw [← hlen];exact (List.getElem?_eq_some_iff.mp hx).1
 obtain ⟨b,hb,hbq⟩:=hrow i _ (List.getElem?_eq_getElem hi)
 rw [hx] at hb
 cases hb
 have er:T.getD i []=T[i]:=by rw [List.getD_eq_getElem?_getD,List.getElem?_eq_getElem hi];rfl
 rw [er] at hQ
 have hm:=tb.mem (List.getElem_mem hi)
 have hb1:=(bR hacc sx1).tup hbq
 generalize T[i]=r at *
 refine ⟨rfl,_,s1,b,rfl, .inr ⟨⟨_,hb1⟩,fun acc2 hacc2=>?_⟩⟩
 refine cT [0] ((r.map dF).map V.str) hacc2 (by rw [List.length_map,List.length_map];omega) ?_ fun σ' H' sm hl'=>⟨_,acc2,r.map dF,rfl,rfl, .of hl',wF hm.2 (by omega),hQ _ sm⟩
 refine Emits.cast (L:=(List.range (r.map V.int).length).flatMap fun i=>[V.str (dF (r.getD i 0))]) ?_ (by rw [List.length_map,lT (fun x=>V.str (dF x)),List.map_map];rfl)
 refine jL (by decide) (by show 0<1;decide) (fun H' sx=>(bR hacc2 sx).tup hb1) fun j x σ2 H2 hx2 l2 ag2 s2 sx2 _=>?_
 refine eY fun Q hQ=>?_
 rw [List.getElem?_map] at hx2
 cases ey:r[j]? with
 | none=>rw [ey] at hx2;cases hx2
 | some y=>
  rw [ey] at hx2
  cases hx2
  have ed:r.getD j 0=y:=by rw [List.getD_eq_getElem?_getD,ey];rfl
  rw [ed] at hQ
  have hy:=hm.2 y (List.mem_of_getElem? ey)
  exact ⟨_,s2,y,rfl,Nat.lt_of_le_of_lt (show y.natAbs≤1000000 by omega) (by decide),hQ _ (Same.refl _)⟩
theorem rN:∀ vs H Q E,fR K vs H Q E→fU K { nx:=fun _ H'=>Q .non H',rt:=Q } (aW ["table"] vs) H:=pP
end
end K83
namespace K83
open PySem L2 PyProof.Rows
noncomputable def wds:List (List Int)→List Str
 | []=>[]
 | [r]=>r.map dF
 | r :: s :: t=>r.map dF++("/" : Str) :: wds (s :: t)
theorem mX {y:Str}:∀ {as bs:List Str},as≠[]→bs≠[]→Str.join y (as++bs)=Str.join y as++y++Str.join y bs
 | [],_,h,_=>absurd rfl h
 | _,[],_,h=>absurd rfl h
 | [a],b :: bs,_,_=>rfl
 | a :: a' :: as,b :: bs,_,hb=>by
  show a++y++Str.join y ((a' :: as)++(b :: bs))=(a++y++Str.join y (a' :: as))++y++Str.join y (b :: bs)
  rw [mX (by simp) hb]
  simp only [Str.append_assoc]
theorem tD:∀ {T:List (List Int)},T≠[]→(∀ r∈T,r≠[])→wds T≠[]
 | [],h,_=>absurd rfl h
 | [r],_,h=>by
  have:=h r (by simp)
  unfold wds
  simpa using this
 | r :: s :: t,_,_=>by unfold wds;simp
theorem nB:∀ {T:List (List Int)},(∀ r∈T,r≠[])→Str.join " / " (T.map fun r=>Str.join " " (r.map dF))=Str.join " " (wds T)
 | [],_=>rfl
 | [r],_=>by unfold wds;rfl
 | r :: s :: t,h=>by
  have ht:∀ x∈s :: t,x≠[]:=fun x hx=>h x (List.mem_cons_of_mem _ hx)
  have ih:=nB ht
  have hr:r.map dF≠[]:=by have:=h r (by simp);simpa using this
  have e1:Str.join " " (("/" : Str) :: wds (s :: t))="/" ++ " " ++ Str.join " " (wds (s :: t)):=by
   have hw:=tD (T:=s :: t) (by simp) ht
   cases e:wds (s :: t) with
   | nil=>exact absurd e hw
   | cons a b=>rfl
  have e2:(" / " : Str)=" " ++ "/" ++ " ":=by decide
  show Str.join " " (r.map dF) ++ " / " ++ Str.join " / " ((s :: t).map fun r=>Str.join " " (r.map dF))=Str.join " " (wds (r :: s :: t))
  rw [ih,wds,mX hr (by simp),e1,e2]
  simp only [Str.append_assoc]
theorem pJ {T:List (List Int)}{n:Nat}(t:Tb T n):kE T=Txt.join " " (wds T):=by
 unfold kE Txt.join
 rw [StrLaws.glued_eq_join,StrLaws.glued_eq_join]
 have e:T.map gF=T.map fun r=>Str.join " " (r.map dF):=List.map_congr_left fun r _=>by
  unfold gF Txt.join
  rw [StrLaws.glued_eq_join]
 rw [e]
 exact nB fun r hr e=>by
  have h:=(t.mem hr).1
  have:=t.lo
  rw [e] at h
  simp at h
  omega
theorem oT {n:Nat}:∀ {T:List (List Int)} {i j:Nat},(∀ r∈T,r.length=n)→i<T.length→j<n→(wds T)[i*(n+1)+j]?=some (dF (at2 T i j))
 | [],i,j,_,hi,_=>by simp at hi
 | [r],i,j,h,hi,hj=>by
  have hr:=h r (by simp)
  obtain rfl:i=0:=by simp at hi;exact hi
  unfold wds at2
  rw [Nat.zero_mul,Nat.zero_add,List.getElem?_map,List.getElem?_eq_getElem (by omega)]
  show some (dF r[j])=some (dF (r.getD j 0))
  rw [List.getD_eq_getElem?_getD,List.getElem?_eq_getElem (by omega)]
  rfl
 | r :: s :: t,0,j,h,hi,hj=>by
  have hr:=h r (by simp)
  unfold wds at2
  rw [Nat.zero_mul,Nat.zero_add,List.getElem?_append_left (by rw [List.length_map];omega),List.getElem?_map,List.getElem?_eq_getElem (by omega)]
  show some (dF r[j])=some (dF (r.getD j 0))
  rw [List.getD_eq_getElem?_getD,List.getElem?_eq_getElem (by omega)]
  rfl
 | r :: s :: t,i+1,j,h,hi,hj=>by
  have hr:=h r (by simp)
  have ih:=oT (T:=s :: t) (i:=i) (j:=j) (fun x hx=>h x (List.mem_cons_of_mem _ hx)) (by simpa using hi) hj
  unfold wds
  have e:(i+1)*(n+1)+j=(i*(n+1)+j)+1+n:=by rw [Nat.succ_mul];omega
  rw [List.getElem?_append_right (by rw [List.length_map];omega),List.length_map,hr,e,Nat.add_sub_cancel,List.getElem?_cons_succ,ih]
  rfl
theorem oX {n:Nat}:∀ {T:List (List Int)} {i:Nat},(∀ r∈T,r.length=n)→i+1<T.length→(wds T)[i*(n+1)+n]?=some "/"
 | [],i,_,hi=>by simp at hi
 | [r],i,_,hi=>by simp at hi
 | r :: s :: t,0,h,hi=>by
  have hr:=h r (by simp)
  unfold wds
  rw [Nat.zero_mul,Nat.zero_add,List.getElem?_append_right (by rw [List.length_map];omega),List.length_map,hr,Nat.sub_self]
  rfl
 | r :: s :: t,i+1,h,hi=>by
  have hr:=h r (by simp)
  have ih:=oX (T:=s :: t) (i:=i) (fun x hx=>h x (List.mem_cons_of_mem _ hx)) (by simpa using hi)
  unfold wds
  have e:(i+1)*(n+1)+n=(i*(n+1)+n)+1+n:=by rw [Nat.succ_mul];omega
  rw [List.getElem?_append_right (by rw [List.length_map];omega),List.length_map,hr,e,Nat.add_sub_cancel,List.getElem?_cons_succ,ih]
theorem pK {n:Nat}:∀ {T:List (List Int)},T≠[]→(∀ r∈T,r.length=n)→(wds T).length+1=T.length*(n+1)
 | [],h,_=>absurd rfl h
 | [r],_,h=>by
  have hr:=h r (by simp)
  unfold wds
  rw [List.length_map]
  simp [hr]
 | r :: s :: t,_,h=>by
  have hr:=h r (by simp)
  have ih:=pK (T:=s :: t) (by simp) (fun x hx=>h x (List.mem_cons_of_mem _ hx))
  unfold wds
  rw [List.length_append,List.length_map,List.length_cons,ih,hr,List.length_cons (a:=r),Nat.succ_mul]
  omega
theorem eT {i:Int}(h0:0≤i):∀ c∈(dF i).cps.toList,48≤c∧c≤57:=by
 obtain ⟨m,rfl⟩:=Int.eq_ofNat_of_zero_le h0
 intro c hc
 unfold dF at hc
 rw [PySem.W.KIN.signs_num] at hc
 obtain ⟨g,hg,eg⟩:=List.mem_map.mp hc
 rw [← eg]
 exact digit_range (Nat.isDigit_of_mem_toDigits (by decide) (by decide) hg)
theorem uH {i:Int}(h0:0≤i):0<(dF i).cps.toList.length:=by
 obtain ⟨m,rfl⟩:=Int.eq_ofNat_of_zero_le h0
 unfold dF
 rw [PySem.W.KIN.signs_num,List.length_map]
 exact toDigits_len_ge 10 m
theorem sW {i:Int}(h0:0≤i):dF i≠"/":=fun e=>by
 have h:=eT h0
 rw [e] at h
 have:=h 47 (by decide)
 omega
theorem uI {i:Int}(h0:0≤i):Txt.isascii (dF i)=true:=by
 unfold Txt.isascii
 rw [← Array.all_toList,List.all_eq_true]
 intro c hc
 have:=eT h0 c hc
 exact decide_eq_true (by omega)
theorem uW:∀ c:Nat,48≤c→c≤57→Unicode.isDigit c=true:=by
 intro c h1 h2
 have:c=48∨c=49∨c=50∨c=51∨c=52∨c=53∨c=54∨c=55∨c=56∨c=57:=by omega
 rcases this with rfl | rfl | rfl | rfl | rfl | rfl | rfl | rfl | rfl | rfl <;> decide +kernel
theorem uD {i:Int}(h0:0≤i):Txt.isdigit (dF i)=true:=by
 unfold Txt.isdigit
 rw [Bool.and_eq_true]
 refine ⟨decide_eq_true ?_,?_⟩
 ·have:=uH h0
  rw [Array.length_toList] at this
  exact this
 ·rw [← Array.all_toList,List.all_eq_true]
  intro c hc
  have:=eT h0 c hc
  exact uW c this.1 this.2
theorem sM {T:List (List Int)}(h:∀ r∈T,∀ x∈r,0≤x):∀ t∈wds T,32∉t.cps.toList:=by
 have num:∀ r:List Int,(∀ x∈r,0≤x)→∀ t∈r.map dF,32∉t.cps.toList:=fun r hr t ht hc=>by
  obtain ⟨x,hx,rfl⟩:=List.mem_map.mp ht
  have:=eT (hr x hx) 32 hc
  omega
 induction T with
 | nil=>intro t ht;unfold wds at ht;cases ht
 | cons r T ih=>
  cases T with
  | nil=>unfold wds;exact num r (h r (by simp))
  | cons s T=>
   intro t ht
   unfold wds at ht
   rcases List.mem_append.mp ht with ht | ht
   ·exact num r (h r (by simp)) t ht
   ·rcases List.mem_cons.mp ht with rfl | ht
    ·decide
    ·exact ih (fun x hx=>h x (List.mem_cons_of_mem _ hx)) t ht
theorem lY {T:List (List Int)}{n:Nat}(t:Tb T n):Txt.split (kE T) " " = wds T:=by
 rw [pJ t]
 have e:(" " : Str)=⟨#[32]⟩:=by decide
 rw [e]
 have hne:T≠[]:=fun e=>by have h:=t.qd.len;have:=t.lo;rw [e] at h;simp at h;omega
 refine nZ 32 (wds T) (tD hne fun r hr e=>?_) (sM fun r hr x hx=>((t.mem hr).2 x hx).1)
 have h:=(t.mem hr).1
 have:=t.lo
 rw [e] at h
 simp at h
 omega
section
variable {K:PySem.W.Frag}
noncomputable def sR:Sp:=fun vs H Q _=>∃ i:Int,vs=[.str (dF i), .int 1000000]∧0≤i∧i≤1000000∧Q (.int i) H
theorem vU:∀ vs H Q E,sR vs H Q E→gO K { nx:=fun _ H'=>Q .non H',rt:=Q } (aW ["word","most","number"] vs) H:=by
 intro vs H Q E h
 obtain ⟨i,rfl,h0,h1,q⟩:=h
 have hl:=jR h0 h1
 have hm:(dF 1000000).length=7:=by decide +kernel
 refine ⟨_,rfl,_,rfl,Nat.le_trans hl (by decide),_,rfl,1000000,rfl,by decide,_,rfl,by rw [hm];decide,_,_,rfl,rfl,_,rfl,eK (decide_eq_false (by rw [hm];omega)) ?_⟩
 refine ⟨_,rfl,rfl,_,rfl,rfl,_,rfl,?_⟩
 rw [uI h0]
 refine rA ⟨_,rfl,rfl,_,rfl,rfl,_,rfl,?_⟩
 rw [uD h0]
 refine rA ⟨_,rfl,_,i,rfl,PySem.W.KIN.num_reads h0 (by omega),Nat.le_trans hl (by decide),?_⟩
 refine ⟨_,rfl,_,rfl,_,_,rfl,rfl,_,rfl,eD (decide_eq_true (by omega)) ?_⟩
 refine ⟨_,rfl,i,rfl,Nat.lt_of_le_of_lt (show i.natAbs≤1000000 by omega) (by decide),_,rfl, .str _, .str _,Nat.zero_le _,rfl,rfl,_,rfl,?_⟩
 rw [gH]
 exact xN ⟨_,rfl,q⟩
end
end K83
namespace K83
open PySem L2 PyProof.Rows
theorem gR {i j:Int}:eqD (.int i) (.int j)=decide (i=j):=by rw [eqD];rfl
theorem mU {x y:Str}:eqD (.str x) (.str y)=decide (x=y):=by rw [eqD];rfl
noncomputable def xT (M:List (List Int)) (w:Str):Prop:=
 (w="/"∧(M.getD (M.length - 1) []).length=(M.getD 0 []).length∧M.length<(M.getD (M.length - 1) []).length) ∨
 ∃ i:Int,w=dF i∧0≤i∧i≤1000000∧(M.getD (M.length - 1) []).length<(if M.length=1 then 8 else (M.getD 0 []).length)∧((M.getD (M.length - 1) []).length≠M.length - 1∨i=0)
section
variable {K:PySem.W.Frag}
noncomputable def sA (K:PySem.W.Frag):Sp:=fun vs H Q _=>∃ (R:Addr) (ls:List Addr) (M:List (List Int)) (w:Str),vs=[.ref R, .str w]∧Mat H R ls M∧1≤M.length∧xT M w∧Q (.bl true) H
theorem pQ {H:Hp}{R:Addr}{ls:List Addr}{M:List (List Int)}(m:Mat H R ls M){i:Nat}(hi:i<M.length):∃ l,(ls.map V.ref)[i]?=some (.ref l)∧SqL K H l ((M.getD i []).map V.int):=by
 have hil:i<ls.length:=by rw [m.len];exact hi
 refine ⟨ls[i],by rw [List.getElem?_map,List.getElem?_eq_getElem hil];rfl, .of (m.row i _ _ (List.getElem?_eq_getElem hil) ?_)⟩
 rw [List.getD_eq_getElem?_getD,List.getElem?_eq_getElem hi]
 rfl
theorem wC:∀ vs H Q E,sA K vs H Q E→iY K sR { nx:=fun _ H'=>Q .non H',rt:=Q } (aW ["rows","word","many","own","here","way"] vs) H:=by
 intro vs H Q E h
 obtain ⟨R,ls,M,w,rfl,m,h1,nx,q⟩:=h
 obtain ⟨l0,e0,q0⟩:=pQ (K:=K) m (i:=0) (by omega)
 obtain ⟨l1,e1,q1⟩:=pQ (K:=K) m (i:=M.length - 1) (by omega)
 have top:SqL K H R (ls.map V.ref) := .of m.top
 have hlen:(ls.map V.ref).length=M.length:=by rw [List.length_map,m.len]
 have e1':(ls.map V.ref)[(ls.map V.ref).length - 1]?=some (.ref l1):=by rw [hlen];exact e1
 unfold xT at nx
 generalize hf:M.getD 0 []=f at *
 generalize hg:M.getD (M.length - 1) []=g at *
 have many:∀ P:VK,P (.int ((if M.length=1 then 8 else f.length:Nat):Int)) H→tIf (dA (tOp (qY K) (tCB (mF K) (aD (aK 0) aS)) (tC (.int 1)))) (tC (.int 8)) (tCB (mF K) (aD (tOp (fY K) (aK 0) (tC (.int 0))) aS)) (aW ["rows","word","many","own","here","way"] [.ref R, .str w]) H P:=fun P hP=>by
  refine ⟨_,rfl,R,_,rfl, .inl top, .int _, .int _,Nat.zero_le _,rfl,rfl,_,rfl,?_⟩
  rw [gR,hlen]
  by_cases c:M.length=1
  ·refine eD (decide_eq_true (by omega)) ?_
   rw [if_pos c] at hP
   exact hP
  ·refine eK (decide_eq_false (by omega)) ?_
   rw [if_neg c] at hP
   refine ⟨_,rfl,ixL (j:=0) top e0 ⟨l0,_,rfl, .inl q0,?_⟩⟩
   rw [List.length_map]
   exact hP
 refine many _ ?_
 refine ⟨_,rfl,R,_,rfl, .inl top,_,_,rfl,rfl,?_⟩
 rw [hlen]
 refine ⟨_,rfl,1,rfl,nF top e1' ⟨l1,_,rfl, .inl q1,?_⟩⟩
 rw [List.length_map]
 refine ⟨_,rfl, .str _, .str _,Nat.zero_le _,rfl,rfl,_,rfl,?_⟩
 rw [mU]
 rcases nx with ⟨rfl,n1,n2⟩ | ⟨i,rfl,i0,i1,n1,n2⟩
 ·refine eD (decide_eq_true rfl) ?_
  refine ⟨_,rfl,_,rfl,ixL (j:=0) top e0 ⟨l0,_,rfl, .inl q0, .int _, .int _,Nat.zero_le _,rfl,rfl,_,rfl,?_⟩⟩
  rw [gR,List.length_map]
  refine eD (decide_eq_true (by omega)) ⟨_,rfl,R,_,rfl, .inl top,_,rfl,_,_,rfl,rfl,?_⟩
  rw [hlen,decide_eq_true (by omega)]
  exact q
 ·refine eK (decide_eq_false (sW i0)) ?_
  refine ⟨_,rfl,i,rfl,i0,i1,?_⟩
  refine ⟨_,rfl, .inr ⟨rfl,_,rfl,eD (by simp) ?_⟩⟩
  refine ⟨_,rfl,_,rfl,_,_,rfl,rfl,_,rfl,eD (decide_eq_true (by omega)) ?_⟩
  refine ⟨_,rfl,_,rfl, .int _, .int _,Nat.zero_le _,rfl,rfl,_,rfl,?_⟩
  rw [gR]
  by_cases c:g.length=M.length - 1
  ·refine eK (by rw [decide_eq_true (by omega)];rfl) ⟨_,rfl, .int _, .int _,Nat.zero_le _,rfl,rfl,?_⟩
   rw [gR,decide_eq_true (by omega)]
   exact q
  ·exact eD (by rw [decide_eq_false (by omega)];rfl) q
end
end K83
namespace K83
open PySem L2 PyProof.Rows
theorem sL {H:Hp}{F l:Addr}{ls:List Addr}{M:List (List Int)}{r:List Int}{v:Int}(m:Mat H F ls (M++[r]))(hl:ls[M.length]?=some l):Mat (upd H l (.lst ((r++[v]).map V.int))) F ls (M++[r++[v]]):=by
 have hmem:l∈ls:=List.mem_of_getElem? hl
 have hFl:F≠l:=fun e=>m.out (by rw [e];exact hmem)
 refine ⟨by rw [aJ hFl];exact m.top,by rw [m.len,List.length_append,List.length_append];rfl,fun i l' r' h1 h2=>?_,m.nd,m.out⟩
 by_cases c:i=M.length
 ·subst c
  rw [hl] at h1
  cases h1
  rw [List.getElem?_append_right (Nat.le_refl _),Nat.sub_self] at h2
  cases h2
  exact aE
 ·have hne:l'≠l:=fun e=>by
   subst e
   have a1:i<ls.length:=(List.getElem?_eq_some_iff.mp h1).1
   have a2:M.length<ls.length:=(List.getElem?_eq_some_iff.mp hl).1
   have b1:=(List.getElem?_eq_some_iff.mp h1).2
   have b2:=(List.getElem?_eq_some_iff.mp hl).2
   exact c ((List.getElem_inj m.nd).mp (b1.trans b2.symm))
  have hi:i<(M++[r++[v]]).length:=(List.getElem?_eq_some_iff.mp h2).1
  have hi':i<M.length:=by rw [List.length_append] at hi;simp at hi;omega
  rw [aJ hne]
  refine m.row i l' r' h1 ?_
  rw [List.getElem?_append_left hi'] at h2 ⊢
  exact h2
theorem sJ {H:Hp}{F q:Addr}{ls:List Addr}{M:List (List Int)}(m:Mat H F ls M)(hq:H q=none):Mat (upd (upd H q (.lst [])) F (.lst ((ls++[q]).map V.ref))) F (ls++[q]) (M++[[]]):=by
 have hF:F≠q:=aI m.top hq
 have hls:∀ l∈ls,l≠q:=fun l hl=>by
  obtain ⟨i,hi,e⟩:=List.getElem_of_mem hl
  have hM:i<M.length:=by rw [← m.len];exact hi
  have:=m.row i l _ (by rw [List.getElem?_eq_getElem hi,e]) (List.getElem?_eq_getElem hM)
  exact aI this hq
 refine ⟨aE,by rw [List.length_append,List.length_append,m.len];rfl,fun i l r h1 h2=>?_,?_,fun h=>?_⟩
 ·by_cases c:i<ls.length
  ·rw [List.getElem?_append_left c] at h1
   rw [List.getElem?_append_left (by rw [← m.len];exact c)] at h2
   have hl:=List.mem_of_getElem? h1
   have hlF:l≠F:=fun e=>m.out (by rw [← e];exact hl)
   rw [aJ hlF,aJ (hls l hl)]
   exact m.row i l r h1 h2
  ·have hi:i<(ls++[q]).length:=(List.getElem?_eq_some_iff.mp h1).1
   have:i=ls.length:=by rw [List.length_append] at hi;simp at hi;omega
   subst this
   rw [List.getElem?_append_right (Nat.le_refl _),Nat.sub_self] at h1
   rw [m.len,List.getElem?_append_right (Nat.le_refl _),Nat.sub_self] at h2
   cases h1
   cases h2
   rw [aJ hF.symm]
   exact aE
 ·rw [List.nodup_append]
  exact ⟨m.nd,by simp,fun a ha b hb=>by rw [List.mem_singleton.mp hb];exact hls a ha⟩
 ·rcases List.mem_append.mp h with h | h
  ·exact m.out h
  ·exact hF (List.mem_singleton.mp h)
theorem rG {T:List (List Int)}{n:Nat}(t:Tb T n):nE (iI T)=true:=by
 have hl:=t.qd.len
 have h8:=t.hi
 unfold iI nE
 rw [decide_eq_true (by rw [List.length_map];omega),jJ]
 ·rfl
 ·intro d hd
  obtain ⟨r,hr,rfl⟩:=List.mem_map.mp hd
  have:=(t.mem hr).1
  unfold nE
  rw [decide_eq_true (by rw [List.length_map];omega),jJ]
  ·rfl
  ·intro e he
   obtain ⟨x,_,rfl⟩:=List.mem_map.mp he
   unfold nE
   rfl
theorem rT {T:List (List Int)}{n:Nat}(t:Tb T n):zI (iI T)=true:=by
 have hl:=t.qd.len
 have h1:=t.lo
 have h8:=t.hi
 show ((decide (1≤(T.map fun r=>Dt.tup (r.map Dt.int)).length) && decide ((T.map fun r=>Dt.tup (r.map Dt.int)).length≤8)) && (List.range (T.map fun r=>Dt.tup (r.map Dt.int)).length).all fun i=>rB (T.map fun r=>Dt.tup (r.map Dt.int)).length i ((T.map fun r=>Dt.tup (r.map Dt.int)).getD i .non))=true
 rw [List.length_map,hl,decide_eq_true h1,decide_eq_true h8,Bool.true_and,Bool.true_and,List.all_eq_true]
 intro i hi
 have hin:i<n:=List.mem_range.mp hi
 obtain ⟨row,e1,e2,e3⟩:=t.qd.get hin
 have em:(T.map fun r=>Dt.tup (r.map Dt.int)).getD i .non = .tup (row.map Dt.int):=by
  rw [List.getD_eq_getElem?_getD,List.getElem?_map,e1]
  rfl
 rw [em]
 have hm:=t.mem (List.mem_of_getElem? e1)
 have hz:row.getD i 0=0:=by
  have:=(t.bd i i hin hin).2.2
  unfold at2 at this
  rw [e3] at this
  exact this
 show ((row.map Dt.int).all whD && vA n i (dJ (row.map Dt.int)))=true
 rw [jA]
 unfold vA
 rw [decide_eq_true e2,decide_eq_true hz]
 have a1:(row.map Dt.int).all whD=true:=by
  rw [List.all_eq_true]
  intro d hd
  obtain ⟨x,_,rfl⟩:=List.mem_map.mp hd
  rfl
 have a2:(row.all fun i=>decide (0≤i))=true:=List.all_eq_true.mpr fun x hx=>decide_eq_true (hm.2 x hx).1
 have a3:(row.all fun i=>decide (i≤1000000))=true:=List.all_eq_true.mpr fun x hx=>decide_eq_true (hm.2 x hx).2
 rw [a1,a2,a3]
 rfl
theorem pZ {r:List Int}{j:Nat}(h:j<r.length):r.take j++[r.getD j 0]=r.take (j+1):=by
 rw [List.take_succ,List.getD_eq_getElem?_getD,List.getElem?_eq_getElem h]
 rfl
theorem oV {T:List (List Int)}{i:Nat}(h:i<T.length):T.take i++[T.getD i []]=T.take (i+1):=by
 rw [List.take_succ,List.getD_eq_getElem?_getD,List.getElem?_eq_getElem h]
 rfl
noncomputable def part (T:List (List Int)) (i j:Nat):List (List Int):=T.take i++[(T.getD i []).take j]
theorem eP {T:List (List Int)}{i j:Nat}(h:i<T.length):(part T i j).length=i+1:=by
 unfold part
 rw [List.length_append,List.length_take]
 simp
 omega
theorem eX {T:List (List Int)}{i j:Nat}(h:i<T.length):(part T i j).getD ((part T i j).length - 1) []=(T.getD i []).take j:=by
 rw [eP h]
 unfold part
 have hl:(T.take i).length=i:=by rw [List.length_take];omega
 rw [List.getD_eq_getElem?_getD,Nat.add_sub_cancel,List.getElem?_append_right (by omega),hl,Nat.sub_self]
 rfl
theorem iS {T:List (List Int)}{n i j:Nat}(t:Tb T n)(h:i<n)(hj:j≤n):((part T i j).getD 0 []).length=if i=0 then j else n:=by
 have hl:=t.qd.len
 unfold part
 by_cases c:i=0
 ·subst c
  obtain ⟨row,e1,e2,e3⟩:=t.qd.get h
  rw [if_pos rfl,e3]
  show (row.take j).length=j
  rw [List.length_take]
  omega
 ·rw [if_neg c,List.getD_eq_getElem?_getD,List.getElem?_append_left (by rw [List.length_take];omega),List.getElem?_take_of_lt (by omega)]
  obtain ⟨row,e1,e2,e3⟩:=t.qd.get (show 0<n by omega)
  rw [e1]
  exact e2
theorem sF {T:List (List Int)}{n i j:Nat}(t:Tb T n)(h:i<n)(hj:j<n):xT (part T i j) (dF (at2 T i j)):=by
 have hl:=t.qd.len
 have b:=t.bd i j h hj
 refine .inr ⟨_,rfl,b.1,b.2.1,?_,?_⟩
 ·rw [eX (by omega),eP (by omega),iS t h (by omega)]
  obtain ⟨row,e1,e2,e3⟩:=t.qd.get h
  rw [e3,List.length_take]
  have:=t.hi
  by_cases c:i=0
  ·subst c
   rw [if_pos rfl]
   omega
  ·rw [if_neg (by omega),if_neg c]
   omega
 ·rw [eX (by omega),eP (by omega)]
  obtain ⟨row,e1,e2,e3⟩:=t.qd.get h
  rw [e3,List.length_take]
  by_cases c:j=i
  ·subst c
   exact .inr b.2.2
  ·exact .inl (by omega)
theorem sV {T:List (List Int)}{n i:Nat}(t:Tb T n)(h:i+1<n):xT (part T i n) "/":=by
 have hl:=t.qd.len
 refine .inl ⟨rfl,?_,?_⟩
 ·rw [eX (by omega),iS t (by omega) (Nat.le_refl _)]
  obtain ⟨row,e1,e2,e3⟩:=t.qd.get (show i<n by omega)
  rw [e3,List.length_take]
  split <;> omega
 ·rw [eX (by omega),eP (by omega)]
  obtain ⟨row,e1,e2,e3⟩:=t.qd.get (show i<n by omega)
  rw [e3,List.length_take]
  omega
theorem kT {T:List (List Int)}{n i:Nat}(t:Tb T n)(h:i<n):part T i n=T.take (i+1):=by
 have hl:=t.qd.len
 unfold part
 obtain ⟨row,e1,e2,e3⟩:=t.qd.get h
 rw [show (T.getD i []).take n=T.getD i [] from List.take_of_length_le (by rw [e3];omega),oV (by omega)]
theorem gY {H H':Hp}{l:Addr}{o:HO}(s:Same H H')(h:H l=none):Same H (upd H' l o):=fun b u e=>by
 rw [aJ (aI e h)]
 exact s b u e
section
variable {K:PySem.W.Frag}
noncomputable def mY (K:PySem.W.Frag):Sp:=fun vs H Q _=>∃ (T:List (List Int)) (n:Nat),vs=[.str (kE T)]∧Tb T n∧∀ p H',Same H H'→Sh K H' (iI T) (.ref p)→Q (.ref p) H'
theorem uS:∀ vs H Q E,mY K vs H Q E→gB K (mZ K) (sA K) { nx:=fun _ H'=>Q .non H',rt:=Q } (aW ["text","words","rows","at","word","table"] vs) H:=by
 intro vs H Q E h
 obtain ⟨T,n,rfl,tb,q⟩:=h
 have hl:=tb.qd.len
 have h1:=tb.lo
 have h8:=tb.hi
 have hTne:T≠[]:=fun e=>by rw [e] at hl;simp at hl;omega
 have hw:=pK (n:=n) hTne fun r hr=>(tb.mem hr).1
 have hwz:(wds T).length≤80:=by
  have:T.length*(n+1)≤8*9:=Nat.mul_le_mul (by omega) (by omega)
  omega
 refine ⟨_,rfl,rfl,_,_,rfl,rfl,by decide,Nat.le_trans (uB tb) (by decide),by rw [lY tb];exact Nat.le_trans hwz (by decide),fun W hW=>?_⟩
 rw [lY tb]
 refine ⟨Nat.zero_le _,fun r0 hr0=>⟨show 1≤sizeLine by decide,fun R hR=>?_⟩⟩
 have nR0:R≠r0:=fun e=>by rw [e,aE] at hR;cases hR
 rw [aJ nR0] at hR
 have nRW:R≠W:=fun e=>by rw [e,aE] at hR;cases hR
 rw [aJ nRW] at hR
 have nW0:r0≠W:=fun e=>by rw [e,aE] at hr0;cases hr0
 rw [aJ nW0] at hr0
 refine ⟨_,rfl,W,true,rfl,⟨(wds T).map V.str, .of ?_⟩,?_⟩
 ·rw [aJ nRW.symm,aJ nW0.symm]
  exact aE
 refine nO (b:=true) (xs:=(wds T).map V.str) (fun k σ' H'=>∃ (i j:Nat) (ls:List Addr) (x3 x4:Option V),k=i*(n+1)+j∧i<n∧j≤n∧σ'=[some (.str (kE T)),some (.ref W),some (.ref R),x3,x4,none]∧H' W=some (.lst ((wds T).map V.str))∧Mat H' R ls (part T i j)∧Same H H'∧W∉ls∧∀ l∈ls,H l=none) ?_ ?_ ?_ ?_
 ·refine ⟨0,0,[r0],none,none,by omega,h1,Nat.zero_le _,rfl,?_,?_,?_,?_,?_⟩
  ·rw [aJ nRW.symm,aJ nW0.symm]
   exact aE
  ·have e:part T 0 0=[[]]:=by unfold part;simp
   rw [e]
   refine ⟨aE,rfl,fun i l r a b=>?_,by simp,by simpa using nR0⟩
   cases i with
   | zero=>
    cases a
    cases b
    rw [aJ nR0.symm]
    exact aE
   | succ i=>simp at a
  ·exact gY (gY (aP hW _) hr0) hR
  ·simpa using nW0.symm
  ·intro l hm
   rw [List.mem_singleton.mp hm]
   exact hr0
 ·rintro k σ' H' _ ⟨i,j,ls,x3,x4,_,_,_,_,hWx,_⟩
  exact .of hWx
 ·rintro k x σ' H' p hx hp ⟨i,j,ls,x3,x4,rfl,hi,hj,rfl,hWx,m,sm,nW,fr⟩
  have sp1:=aP hp (.tup [.int ((i*(n+1)+j:Nat):Int),x])
  have hk:i*(n+1)+j<(wds T).length:=by
   have:=(List.getElem?_eq_some_iff.mp hx).1
   rw [List.length_map] at this
   exact this
  have m1:=m.same sp1
  have sm1:=sm.trans sp1
  have hWx1:=sp1 _ _ hWx
  have hp2:∀ l∈ls,l≠p:=fun l hm=>by
   obtain ⟨i',hi',e⟩:=List.getElem_of_mem hm
   have hM:i'<(part T i j).length:=by rw [← m.len];exact hi'
   exact aI (m.row i' l _ (by rw [List.getElem?_eq_getElem hi',e]) (List.getElem?_eq_getElem hM)) hp
  have plen:=eP (T:=T) (i:=i) (j:=j) (by omega)
  have hlsl:ls.length=i+1:=by rw [m.len,plen]
  refine ⟨p,_,rfl, .of aE,rfl,_,_,rfl,_,_,rfl,rfl,?_⟩
  by_cases c:j=n
  ·subst c
   have hi2:i+1<j:=by
    have e:(i+1)*(j+1)<j*(j+1):=by rw [Nat.succ_mul];rw [hl] at hw;omega
    exact Nat.lt_of_mul_lt_mul_right e
   have ew:=oX (T:=T) (n:=j) (i:=i) (fun r hr=>(tb.mem hr).1) (by omega)
   rw [List.getElem?_map,ew] at hx
   cases hx
   refine ⟨_,rfl,_,rfl,R,ls,_,_,rfl,m1,by omega,sV tb hi2,_,rfl,rA ?_⟩
   refine ⟨_,rfl, .str _, .str _,Nat.zero_le _,rfl,rfl,_,rfl,eD (by rw [mU];exact decide_eq_true rfl) ?_⟩
   refine ⟨_,rfl, .inl ⟨rfl,_, .of m1.top⟩,Nat.zero_le _,fun z hz=>?_⟩
   have hzR:=aI m1.top hz
   refine ⟨R,ls.map V.ref, .ref z,rfl,rfl,by rw [aJ hzR];exact m1.top,by rw [List.length_map,hlsl];exact Nat.lt_of_le_of_lt (show i+1≤8 by omega) (by decide),?_⟩
   have m2:=sJ m1 hz
   rw [List.map_append] at m2
   have hHz:H z=none:=by
    cases e:H z with
    | none=>rfl
    | some o=>rw [sm1 _ _ e] at hz;cases hz
   refine ⟨i+1,0,ls++[z],_,_,by rw [Nat.succ_mul];omega,hi2,Nat.zero_le _,rfl,?_,?_,gY (gY sm1 hHz) hR,?_,?_⟩
   ·rw [aJ nRW.symm,aJ (aI hWx1 hz)]
    exact hWx1
   ·have e:part T (i+1) 0=part T i j++[[]]:=by
     rw [kT tb hi]
     unfold part
     simp
    rw [e]
    exact m2
   ·intro h
    rcases List.mem_append.mp h with h | h
    ·exact nW h
    ·exact aI hWx1 hz (List.mem_singleton.mp h)
   ·intro l hm
    rcases List.mem_append.mp hm with h | h
    ·exact fr l h
    ·rw [List.mem_singleton.mp h]
     exact hHz
  ·have hj':j<n:=by omega
   have ew:=oT (T:=T) (n:=n) (i:=i) (j:=j) (fun r hr=>(tb.mem hr).1) (by omega) hj'
   rw [List.getElem?_map,ew] at hx
   cases hx
   have b:=tb.bd i j hi hj'
   refine ⟨_,rfl,_,rfl,R,ls,_,_,rfl,m1,by omega,sF tb hi hj',_,rfl,rA ?_⟩
   refine ⟨_,rfl, .str _, .str _,Nat.zero_le _,rfl,rfl,_,rfl,eK (by rw [mU];exact decide_eq_false (sW b.1)) ?_⟩
   have hil:i<ls.length:=by omega
   have hl1:ls[i]?=some ls[i]:=List.getElem?_eq_getElem hil
   have hTi:(T.take i).length=i:=by rw [List.length_take];omega
   have hrow:=m1.row i ls[i] ((T.getD i []).take j) hl1 (by unfold part;rw [List.getElem?_append_right (by omega),hTi,Nat.sub_self];rfl)
   have etop:(ls.map V.ref)[(ls.map V.ref).length - 1]?=some (.ref ls[i]):=by
    rw [List.length_map,hlsl,Nat.add_sub_cancel,List.getElem?_map,hl1]
    rfl
   obtain ⟨row,e1,e2,e3⟩:=tb.qd.get hi
   refine ⟨_,rfl,1,rfl,nF (.of m1.top) etop ⟨.inl ⟨rfl,_, .of hrow⟩,_,rfl,_,at2 T i j,rfl,PySem.W.KIN.num_reads b.1 (by omega),Nat.le_trans (jR b.1 b.2.1) (by decide),ls[i],_,_,rfl,rfl,hrow,by rw [List.length_map,List.length_take];exact Nat.lt_of_le_of_lt (show _≤8 by omega) (by decide),?_⟩⟩
   have m2:=sL (v:=at2 T i j) (M:=T.take i) (r:=(T.getD i []).take j) m1 (by rw [hTi];exact hl1)
   rw [List.map_append] at m2
   have es:(T.getD i []).take j++[at2 T i j]=(T.getD i []).take (j+1):=pZ (by rw [e3];omega)
   refine ⟨i,j+1,ls,_,_,by omega,hi,hj',rfl,?_,?_,gY sm1 (fr _ (List.getElem_mem hil)),nW,fr⟩
   ·have hWl:W≠ls[i]:=fun e=>nW (by rw [e];exact List.getElem_mem hil)
    rw [aJ hWl]
    exact hWx1
   ·unfold part
    rw [← es]
    exact m2
 ·rintro σ' H' ⟨i,j,ls,x3,x4,hk,hi,hj,rfl,hWx,m,sm,nW,fr⟩
  rw [List.length_map] at hk
  have ei:i+1=n:=by
   by_cases c:i+1=n
   ·exact c
   ·exfalso
    have e:(i+2)*(n+1)≤n*(n+1):=Nat.mul_le_mul_right _ (by omega)
    rw [Nat.add_mul] at e
    rw [hl] at hw
    omega
  have ej:j=n:=by
   rw [hl,← ei,Nat.succ_mul] at hw
   rw [← ei] at hk
   omega
  subst ej
  rw [kT tb hi,ei,List.take_of_length_le (by omega)] at m
  refine oS (t:=2) rfl m tb.qd (by omega) fun p H2 s2 hS=>?_
  refine ⟨_,rfl, .ref p,iI T,rfl,hS,rG tb,fun H3 s3=>⟨_,rfl,?_⟩⟩
  rw [rT tb]
  exact rA ⟨_,rfl,q p H3 ((sm.trans s2).trans s3) (hS.same s3)⟩
end
end K83
namespace K83
open PySem L2
theorem uL {n j:Nat}(h:j<n):ixN n (j:Int)=some j:=by
 unfold ixN
 rw [if_pos (by omega),if_pos (by omega)]
 rfl
theorem vV {T:List (List Int)}{n:Nat}(q:Quad T n)(n1:1≤n)(n8:n≤8)(h:∀ r∈T,∀ x∈r,0≤x∧x≤1000000)(d:∀ k,k<n→at2 T k k=0):Tb T n:=by
 refine ⟨q,fun i j hi hj=>?_,n1,n8⟩
 obtain ⟨row,e1,e2,e3⟩:=q.get hi
 have hm:=h row (List.mem_of_getElem? e1)
 have e:at2 T i j=row.getD j 0:=by unfold at2;rw [e3]
 have hx:row.getD j 0∈row:=by
  rw [List.getD_eq_getElem?_getD,List.getElem?_eq_getElem (by omega)]
  exact List.getElem_mem _
 rw [e]
 exact ⟨(hm _ hx).1,(hm _ hx).2,d i hi⟩
theorem jC:∀ {ns:List Int},(∀ i∈ns,i.natAbs<10 ^ 40)→PyData.showableAll (gA (ns.map Dt.int))=true∧PyData.leavesShortAll 1930 (gA (ns.map Dt.int))=true∧PyData.bulkAll (gA (ns.map Dt.int))≤ns.length∧mC (ns.map Dt.int)=0
 | [],_=>⟨by unfold List.map gA PyData.showableAll;rfl,by unfold List.map gA PyData.leavesShortAll;rfl,by unfold List.map gA PyData.bulkAll;exact Nat.zero_le _,rfl⟩
 | n :: ns,h=>by
  obtain ⟨d,e,a,b,_⟩:=vZ (K:=default) (H:=fun _=>none) (h n (by simp))
  have hd:d = .int n:=by cases d <;> first | (cases e;done) | (cases e;rfl) | (obtain ⟨_,_,z,_⟩:=e;cases z)
  subst hd
  obtain ⟨a',b',c',f'⟩:=jC fun i hi=>h i (List.mem_cons_of_mem _ hi)
  rw [List.map_cons]
  unfold gA PyData.showableAll PyData.leavesShortAll PyData.bulkAll
  refine ⟨by rw [a,a'];rfl,by rw [b,b'];rfl,?_,by rw [mC,f'];rfl⟩
  rw [List.length_cons]
  show 0+1+_≤_
  omega
theorem jB {m:Nat}:∀ {T:List (List Int)},(∀ r∈T,r.length≤m∧∀ i∈r,i.natAbs<10 ^ 40)→PyData.showableAll (gA (T.map fun r=>Dt.tup (r.map Dt.int)))=true∧PyData.leavesShortAll 1930 (gA (T.map fun r=>Dt.tup (r.map Dt.int)))=true∧PyData.bulkAll (gA (T.map fun r=>Dt.tup (r.map Dt.int)))≤(m+1)*T.length∧mC (T.map fun r=>Dt.tup (r.map Dt.int))≤1
 | [],_=>⟨by unfold List.map gA PyData.showableAll;rfl,by unfold List.map gA PyData.leavesShortAll;rfl,by unfold List.map gA PyData.bulkAll;exact Nat.zero_le _,Nat.zero_le _⟩
 | r :: T,h=>by
  obtain ⟨hl,hi⟩:=h r (by simp)
  obtain ⟨a,b,c,d⟩:=jC hi
  obtain ⟨a',b',c',d'⟩:=jB (m:=m) fun x hx=>h x (List.mem_cons_of_mem _ hx)
  rw [List.map_cons]
  unfold gA PyData.showableAll PyData.leavesShortAll PyData.bulkAll
  refine ⟨?_,?_,?_,?_⟩
  ·rw [a']
   unfold toP PyData.showable
   rw [a]
   rfl
  ·rw [b']
   unfold toP PyData.leavesShort
   rw [b]
   rfl
  ·rw [List.length_cons,Nat.mul_add,Nat.mul_one]
   unfold toP PyData.bulk
   omega
  ·rw [mC,dep,d]
   omega
theorem vL {T:List (List Int)}{n:Nat}(q:Quad T n)(n9:n≤9)(h:∀ r∈T,∀ x∈r,x.natAbs<10 ^ 40):(toP (iI T)).showable=true∧(toP (iI T)).leavesShort 1930=true∧(toP (iI T)).bulk≤90∧dep (iI T)≤60:=by
 obtain ⟨a,b,c,d⟩:=jB (m:=9) (T:=T) fun r hr=>⟨by rw [q.row r hr];exact n9,h r hr⟩
 rw [q.len] at c
 exact ⟨by unfold iI toP PyData.showable;exact a,by unfold iI toP PyData.leavesShort;exact b,by unfold iI toP PyData.bulk;omega,by unfold iI;rw [dep];omega⟩
theorem zF {T:List (List Int)}{n:Nat}(t:Tb T n):okR (iI T):=by
 have h8:=t.hi
 obtain ⟨a,b,c,d⟩:=vL t.qd (by omega) fun r hr x hx=>by
  have:=(t.mem hr).2 x hx
  exact Nat.lt_of_le_of_lt (show x.natAbs≤1000000 by omega) (by decide)
 exact ⟨a,b,by omega,by omega⟩
section
variable {K:PySem.W.Frag}
noncomputable def gK:Sp:=fun vs H Q _=>∃ (p l:Addr) (ns:List Int),vs=[.ref p]∧Pen H p l ns∧∀ (r:Nat) H',r≤1000000→Pen H' p l ns→SameX p H H'→Q (.int (r:Int)) H'
theorem qF:∀ vs H Q E,gK vs H Q E→dW K hJ { nx:=fun _ H'=>Q .non H',rt:=Q } (aW ["tape"] vs) H:=by
 intro vs H Q E h
 obtain ⟨p,l,ns,rfl,hP,q⟩:=h
 refine zS (s:=0) (ts:=[4,10,100,1000001]) (m:=4) rfl hP rfl (by decide) (by decide) (fun R h=>h) (by decide) fun t r H' ht hr hP' sx=>q r H' ?_ hP' sx
 simp at ht
 omega
noncomputable def zX (K:PySem.W.Frag) (p l:Addr) (ns:List Int) (n:Nat) (H:Hp) (Q:VK):Prop:=∀ (T:List (List Int)) (v:V) H',Tb T n→Sh K H' (iI T) v→Pen H' p l ns→SameX p H H'→Q v H'
noncomputable def sT (K:PySem.W.Frag):Sp:=fun vs H Q _=>∃ (p l:Addr) (ns:List Int) (n:Nat),vs=[.ref p, .int (n:Int)]∧Pen H p l ns∧1≤n∧n≤8∧zX K p l ns n H Q
theorem vI:∀ vs H Q E,sT K vs H Q E→iC K gK { nx:=fun _ H'=>Q .non H',rt:=Q } (aW ["tape","many","rows","i","row"] vs) H:=by
 intro vs H Q E h
 obtain ⟨p,l,ns,n,rfl,hP,n1,n8,q⟩:=h
 refine ⟨Nat.zero_le _,fun F hF=>?_⟩
 have hFp:=hP.ne hF
 refine ⟨_,rfl,(n:Int),rfl,by omega,by omega,?_⟩
 rw [Int.toNat_natCast]
 refine cP (lo:=0) (n:=n) (fun i σ' H'=>i≤n∧∃ x3 x4,σ'=[some (.ref p),some (.int (n:Int)),some (.ref F),x3,x4]∧∃ L R,H' F=some (.lst L)∧Rows K H' L R∧R.length=i∧(∀ r∈R,r.length=n∧∀ x∈r,0≤x∧x≤1000000)∧(∀ k,k<i→at2 R k k=0)∧Pen H' p l ns∧SameX p H H') ⟨Nat.zero_le _,_,_,rfl,[],[],aE,Rows.nil,rfl,by simp,fun k hk=>absurd hk (Nat.not_lt_zero _),hP.x (aP hF _),(aP hF _).x⟩ (fun i σ2 H2 hi ⟨_,x3,x4,es,L,R,e1,e2,e3,e4,e5,hP2,sx2⟩=>?_) fun σ2 H2 ⟨_,x3,x4,es,L,R,e1,e2,e3,e4,e5,hP2,sx2⟩=>?_
 ·subst es
  rw [Int.zero_add]
  refine ⟨_,rfl,(n:Int),rfl,by omega,by omega,fun G hG=>?_⟩
  rw [Int.toNat_natCast]
  have hGp:=hP2.ne hG
  have hGF:G≠F:=fun e=>by rw [e,e1] at hG;cases hG
  refine nV (lo:=0) (n:=n) (vars:=[0]) p (fun i L H'=>∃ r:List Int,L=r.map V.int∧r.length=i∧(∀ x∈r,0≤x∧x≤1000000)∧Pen H' p l ns) (by decide) (by show 0<2;decide) ⟨[],rfl,rfl,by simp,hP2.x (aP hG _)⟩ hG (fun j σ3 H3 L3 D hj l3 ag3 s3 sx3 ha3 ⟨r,f1,f2,f3,f4⟩ hD=>?_) fun σ3 H3 L3 sx3 ha3 ⟨r,f1,f2,f3,f4⟩=>?_
  ·have t1:σ3[1]?=some (some (.ref p)):=(ag3 1 (by decide)).trans rfl
   refine ⟨_,t1,p,l,ns,rfl,f4,fun v H4 hv hP4 sx4=>?_⟩
   have ha4:=sx4 _ _ hGp.1 ha3
   refine ⟨L3,ha4,by rw [f1,List.length_map];exact Nat.lt_of_le_of_lt (show r.length≤8 by omega) (by decide),?_⟩
   refine hD σ3 _ _ l3 ag3 (fun b o hb e=>?_) aE ⟨r++[(v:Int)],by rw [f1,List.map_append];rfl,by rw [List.length_append,f2];rfl,fun x hx=>?_,hP4.upd hGp.1 hGp.2⟩
   ·rw [aJ (aI e hG)]
    exact sx4 _ _ hb (sx3 _ _ hb e)
   ·rcases List.mem_append.mp hx with hx | hx
    ·exact f3 x hx
    ·rw [List.mem_singleton.mp hx]
     omega
  ·subst f1
   have hi':i<r.length:=by omega
   refine ⟨_,rfl,_,rfl,G,_,(i:Int),i,rfl,rfl,ha3,uL (by rw [List.length_map];exact hi'),?_⟩
   have eS:(r.map V.int).set i (.int 0)=(r.set i 0).map V.int:=by rw [List.map_set]
   rw [eS]
   have hP4:Pen (upd H3 G (.lst ((r.set i 0).map V.int))) p l ns:=f4.upd hGp.1 hGp.2
   have h4G:upd H3 G (.lst ((r.set i 0).map V.int)) G=some (.lst ((r.set i 0).map V.int)):=aE
   have sx4:SameX p H2 (upd H3 G (.lst ((r.set i 0).map V.int))):=fun b o hb e=>by
    rw [aJ (aI e hG)]
    exact sx3 _ _ hb e
   have e14:upd H3 G (.lst ((r.set i 0).map V.int)) F=some (.lst L):=sx4 _ _ hFp.1 e1
   have e24:Rows K (upd H3 G (.lst ((r.set i 0).map V.int))) L R:=e2.map fun b row hb=>by
    have hPx:H2 p=some (.lst _):=hP2.choose_spec.choose_spec.1
    rcases hb with (hb | ⟨u,hb⟩) | hb
    ·exact .inl (.inl (sx4 _ _ (ne_of hb hPx (fun z=>nomatch z)) hb))
    ·exact .inl (.inr ⟨u,sx4 _ _ (ne_of hb hPx (fun z=>nomatch z)) hb⟩)
    ·exact .inr hb
   generalize upd H3 G (.lst ((r.set i 0).map V.int))=H4 at hP4 h4G sx4 e14 e24 ⊢
   refine ⟨_,rfl, .inl ⟨rfl,_, .of e14⟩,_,rfl,G,_,rfl, .inl ⟨.of h4G,fun t ht=>?_⟩⟩
   have st:=aP ht (.tup ((r.set i 0).map V.int))
   have hF5:=st _ _ e14
   refine ⟨F,L, .ref t,rfl,rfl,hF5,by rw [e2.1];exact Nat.lt_of_le_of_lt (show R.length≤8 by omega) (by decide),?_⟩
   refine ⟨hi,_,_,rfl,L++[.ref t],R++[r.set i 0],aE,Rows.snoc (Rows.put (e24.same st) hF5) (mH (.of aE) hF5),by rw [List.length_append,e3];rfl,fun s hs=>?_,fun k hk=>?_,(hP4.x st).upd hFp.1 hFp.2,fun b o hb e=>?_⟩
   ·rcases List.mem_append.mp hs with hs | hs
    ·exact e4 s hs
    ·rw [List.mem_singleton.mp hs,List.length_set]
     refine ⟨f2,fun x hx=>?_⟩
     rcases List.mem_or_eq_of_mem_set hx with hx | hx
     ·exact f3 x hx
     ·omega
   ·by_cases c:k<i
    ·have h5:=e5 k c
     unfold at2 at h5 ⊢
     rw [List.getD_eq_getElem?_getD (l:=R++[r.set i 0]),List.getElem?_append_left (by omega),← List.getD_eq_getElem?_getD]
     exact h5
    ·obtain rfl:k=i:=by omega
     unfold at2
     rw [List.getD_eq_getElem?_getD (l:=R++[r.set k 0]),List.getElem?_append_right (by omega),e3,Nat.sub_self]
     show (r.set k 0).getD k 0=0
     rw [List.getD_eq_getElem?_getD,List.getElem?_set_self hi']
     rfl
   ·rw [aJ (aI e hF)]
    exact st _ _ (sx4 _ _ hb (sx2 _ _ hb e))
 ·subst es
  refine ⟨_,rfl,F,L,rfl, .inl ⟨.of e1,fun t ht=>?_⟩⟩
  have st:=aP ht (.tup L)
  have qR:Quad R n:=⟨e3,fun r hr=>(e4 r hr).1⟩
  have e2':=e2.same st
  exact q R (.ref t) _ (vV qR n1 n8 (fun r hr=>(e4 r hr).2) e5) ⟨t,L,rfl, .of aE,ShL.of_rows e2'.1 e2'.2⟩ (hP2.x st) (sx2.trans st.x)
end
end K83
namespace K83
open PySem L2
noncomputable def far (i j:Nat):Int:=if i=j then 0 else 1000000
theorem xE:Tb (tH 8 far) 8:=by
 refine vV qK (by decide) (by decide) (fun r hr x hx=>?_) fun k hk=>?_
 ·obtain ⟨i,_,rfl⟩:=List.mem_map.mp hr
  obtain ⟨j,_,rfl⟩:=List.mem_map.mp hx
  unfold far
  split <;> decide
 ·rw [vB hk hk]
  unfold far
  rw [if_pos rfl]
section
variable {K:PySem.W.Frag}
noncomputable def xP (K:PySem.W.Frag):Sp:=fun vs H Q _=>∃ (v:V) (T:List (List Int)) (n:Nat),vs=[v]∧Sh K H (iI T) v∧Tb T n∧∀ H',Same H H'→Q (.bl true) H'
theorem xY:∀ vs H Q E,xP K vs H Q E→eU K (fR K) (mY K) (fR K) { nx:=fun _ H'=>Q .non H',rt:=Q } (aW ["table","due","turn","told","found"] vs) H:=by
 intro vs H Q E h
 obtain ⟨v,T,n,rfl,hS,tb,q⟩:=h
 refine ⟨_,rfl,v,T,n,rfl,hS,tb,fun H1 s1=>?_⟩
 refine ⟨2,rfl,by decide,by decide,?_⟩
 refine cP (lo:=0) (n:=2) (fun i σ' H'=>∃ x2 x3 x4,σ'=[some v,some (.str (kE T)),x2,x3,x4]∧Same H H') ⟨_,_,_,rfl,s1⟩ (fun i σ' H2 hi ⟨x2,x3,x4,es,s2⟩=>?_) fun σ' H2 ⟨x2,x3,x4,es,s2⟩=>q H2 s2
 subst es
 refine ⟨_,rfl,v,T,n,rfl,hS.same s2,tb,fun H3 s3=>?_⟩
 refine ⟨_,rfl, .str _, .str _,"str",rfl,by decide,rfl,_,rfl,rA ?_⟩
 refine ⟨_,rfl,_,rfl, .str _, .str _,Nat.zero_le _,rfl,rfl,_,rfl,eK (by rw [gH];rfl) ?_⟩
 refine ⟨_,rfl,T,n,rfl,tb,fun p H4 s4 hS4=>?_⟩
 have s24:=(s2.trans s3).trans s4
 exact ⟨_,rfl,iI T,_,rfl,hS4,zF tb,_,rfl,iI T,_,rfl,hS.same s24,zF tb, .str _, .str _,Nat.zero_le _,rfl,rfl,_,rfl,eK (by rw [gH];rfl) ⟨_,_,_,rfl,s24⟩⟩
noncomputable def pF (K:PySem.W.Frag):Sp:=fun vs H Q _=>∃ (a:Addr) (ns:List Int),vs=[.ref a]∧SqL K H a (ns.map V.int)∧ns.length≤63∧∀ H',Q (.bl true) H'
theorem wY:∀ vs H Q E,pF K vs H Q E→vW K (sT K) hJ (xP K) { nx:=fun _ H'=>Q .non H',rt:=Q } (aW ["script","tape","turn","rows","i"] vs) H:=by
 intro vs H Q E h
 obtain ⟨a,ns,rfl,hS,hn,q⟩:=h
 refine ⟨_,rfl,_,rfl, .inl ⟨a,_,rfl,hS,fun sc hsc=>?_⟩⟩
 obtain ⟨ms,ems,_⟩:=sS ns none (some 63)
 rw [ems]
 refine .inl ⟨sc,_,rfl, .inl (.of aE),fun l hl=>⟨show 3≤sizeLine by decide,fun p hp=>?_⟩⟩
 have hlp:l≠p:=fun e=>by rw [← e,aE] at hp;cases hp
 have hP:Pen (upd (upd (upd H sc (.lst (ms.map V.int))) l (.lst (ms.map V.int))) p (.lst [.ref l, .int 0, .int 0])) p l ms:=⟨0,0,aE,by rw [aJ hlp];exact aE,hlp⟩
 refine ⟨5,rfl,by decide,by decide,?_⟩
 refine cP (lo:=0) (n:=5) (fun i σ' H'=>∃ x2,σ'=[some (.ref a),some (.ref p),x2,none,none]∧Pen H' p l ms) ⟨_,rfl,hP⟩ (fun i σ' H1 hi ⟨x2,es,hP1⟩=>?_) fun σ' H1 ⟨x2,es,hP1⟩=>?_
 ·subst es
  refine ⟨_,rfl,_,rfl,p,l,ms,8,rfl,hP1,by decide,by decide,fun r H2 hr hP2 sx2=>?_⟩
  refine ⟨p,l,ms,1+r,by rw [show (((1+r:Nat):Int))=1+(r:Int) from by omega];rfl,hP2,by omega,by omega,fun T v H3 tb hS hP3 sx3=>?_⟩
  exact ⟨v,T,1+r,rfl,hS,tb,fun H4 s4=>⟨_,rfl,eK rfl ⟨_,rfl,hP3.x s4⟩⟩⟩
 subst es
 refine ⟨Nat.zero_le _,fun R hR=>?_⟩
 refine ⟨8,rfl,by decide,by decide,?_⟩
 refine cP (lo:=0) (n:=8) (fun i σ' H'=>i≤8∧(∃ x4,σ'=[some (.ref a),some (.ref p),x2,some (.ref R),x4])∧∃ ys,H' R=some (.lst ys)∧Rows K H' ys ((List.range i).map fun i=>(List.range 8).map fun j=>far i j)) ⟨Nat.zero_le _,⟨_,rfl⟩,[],aE,Rows.nil⟩ (fun i σ' H2 hi ⟨_,⟨x4,es⟩,ys,hR2,rows2⟩=>?_) fun σ' H2 ⟨_,⟨x4,es⟩,ys,hR2,rows2⟩=>?_
 ·subst es
  have e0:(0:Int)+(i:Int)=(i:Int):=by omega
  show aU _ _ _ ([some (.ref a),some (.ref p),x2,some (.ref R),some (.int ((0:Int)+(i:Int)))]:St) H2
  rw [e0]
  refine ⟨_,rfl, .inl ⟨rfl,_, .of hR2⟩,8,rfl,by decide,by decide,fun A hA=>?_⟩
  refine cP (lo:=0) (n:=8) (fun j σ' H'=>j≤8∧Same H2 H'∧(∃ x0,σ'=[x0,some (.int (i:Int))])∧H' A=some (.lst (((List.range j).map fun k=>far i k).map V.int))) ⟨Nat.zero_le _,aP hA _,⟨_,rfl⟩,aE⟩ (fun j σ3 H3 hj ⟨_,s3,⟨x0,es⟩,hA3⟩=>?_) fun σ3 H3 ⟨_,s3,⟨x0,es⟩,hA3⟩=>?_
  ·subst es
   have e1:(0:Int)+(j:Int)=(j:Int):=by omega
   show fG _ _ _ ([some (.int ((0:Int)+(j:Int))),some (.int (i:Int))]:St) H3
   rw [e1]
   refine ⟨10,6,rfl,rfl,⟨by decide,by decide,by decide⟩,_,rfl,_,rfl, .int _, .int _,Nat.zero_le _,rfl,rfl, .inr ⟨_,rfl, .inl ⟨by decide,by decide⟩,?_⟩⟩
   rw [gR]
   have ev:(10:Int) ^ (6:Int).toNat*(if (!decide ((i:Int)=(j:Int)))=true then 1 else 0)=far i j:=by
    unfold far
    by_cases c:i=j
    ·rw [decide_eq_true (by omega),if_pos c]
     rfl
    ·rw [decide_eq_false (by omega),if_neg c]
     rfl
   rw [ev]
   refine ⟨_,hA3,?_,hj,uV hA s3,⟨_,rfl⟩,?_⟩
   ·rw [List.length_map,List.length_map,List.length_range]
    exact Nat.lt_of_le_of_lt (show _≤64 by omega) (by decide)
   ·rw [aE,List.range_succ,List.map_append,List.map_append]
    rfl
  ·subst es
   refine ⟨A,_,rfl, .inl ⟨.of hA3,fun t ht=>?_⟩⟩
   have s4:=aP ht (.tup (((List.range 8).map fun k=>far i k).map V.int))
   have hR4:=s4 _ _ (s3 _ _ hR2)
   refine ⟨R,ys,_,rfl,rfl,hR4,?_,?_⟩
   ·rw [rows2.1,List.length_map,List.length_range]
    exact Nat.lt_of_le_of_lt (show _≤64 by omega) (by decide)
   ·refine ⟨hi,⟨_,rfl⟩,_,aE,?_⟩
    rw [List.range_succ (n:=i),List.map_append]
    exact Rows.snoc (Rows.put ((rows2.same s3).same s4) hR4) (mH (.of aE) hR4)
 ·subst es
  refine ⟨_,rfl,R,ys,rfl, .inl ⟨.of hR2,fun t ht=>?_⟩⟩
  have st:=aP ht (.tup ys)
  have r2:=rows2.same st
  exact ⟨.ref t,tH 8 far,8,rfl,⟨t,ys,rfl, .of aE,ShL.of_rows r2.1 r2.2⟩,xE,fun H3 _=>q H3⟩
end
end K83
namespace K83
open PySem L2
section
variable {K:PySem.W.Frag}
theorem mJ:∀ vs H Q E,(spW K) vs H Q E→vs.length=1:=by
 intro vs H Q E h
 obtain ⟨_,_,e,_⟩:=h
 rw [e]
 rfl
theorem kG:∀ vs H Q E,(xR K) vs H Q E→vs.length=1:=by
 intro vs H Q E h
 obtain ⟨_,_,e,_⟩:=h
 rw [e]
 rfl
theorem kH:∀ vs H Q E,sR vs H Q E→vs.length=2:=by
 intro vs H Q E h
 obtain ⟨_,e,_⟩:=h
 rw [e]
 rfl
theorem hV:∀ vs H Q E,(rS K) vs H Q E→vs.length=3:=by
 intro vs H Q E h
 obtain ⟨_,_,_,_,e,_⟩:=h
 rw [e]
 rfl
theorem mQ:∀ vs H Q E,(mZ K) vs H Q E→vs.length=1:=by
 intro vs H Q E h
 obtain ⟨_,_,e,_⟩:=h
 rw [e]
 rfl
theorem jT:∀ vs H Q E,(fR K) vs H Q E→vs.length=1:=by
 intro vs H Q E h
 obtain ⟨_,_,_,e,_⟩:=h
 rw [e]
 rfl
theorem mD:∀ vs H Q E,(sA K) vs H Q E→vs.length=2:=by
 intro vs H Q E h
 obtain ⟨_,_,_,_,e,_⟩:=h
 rw [e]
 rfl
theorem jY:∀ vs H Q E,(mY K) vs H Q E→vs.length=1:=by
 intro vs H Q E h
 obtain ⟨_,_,e,_⟩:=h
 rw [e]
 rfl
theorem gU:∀ vs H Q E,eZ vs H Q E→vs.length=2:=by
 intro vs H Q E h
 obtain ⟨_,_,e,_⟩:=h
 rw [e]
 rfl
theorem jQ:∀ vs H Q E,hJ vs H Q E→vs.length=2:=by
 intro vs H Q E h
 obtain ⟨_,_,_,_,e,_⟩:=h
 rw [e]
 rfl
theorem gP:∀ vs H Q E,gK vs H Q E→vs.length=1:=by
 intro vs H Q E h
 obtain ⟨_,_,_,e,_⟩:=h
 rw [e]
 rfl
theorem lJ:∀ vs H Q E,(sT K) vs H Q E→vs.length=2:=by
 intro vs H Q E h
 obtain ⟨_,_,_,_,e,_⟩:=h
 rw [e]
 rfl
theorem jS:∀ vs H Q E,(fR K) vs H Q E→vs.length=1:=by
 intro vs H Q E h
 obtain ⟨_,_,_,e,_⟩:=h
 rw [e]
 rfl
theorem iN:∀ vs H Q E,(xP K) vs H Q E→vs.length=1:=by
 intro vs H Q E h
 obtain ⟨_,_,_,e,_⟩:=h
 rw [e]
 rfl
theorem vQ:∀ vs H Q E,pF K vs H Q E→vs.length=1:=fun vs H Q E ⟨a,ns,e,_⟩=>by rw [e];rfl
end
theorem tK {us:List Value}(h:us.length=1):∃ a0,us=[a0]:=List.length_eq_one_iff.mp h
theorem wL {us:List Value}(h:us.length=2):∃ a0 a1,us=[a0,a1]:=by
 cases us with
 | nil=>cases h
 | cons a0 us=>
 cases us with
 | nil=>cases h
 | cons a1 us=>
 cases us with
 | nil=>exact ⟨a0,a1,rfl⟩
 | cons _ _=>simp at h
theorem zY {us:List Value}(h:us.length=3):∃ a0 a1 a2,us=[a0,a1,a2]:=by
 cases us with
 | nil=>cases h
 | cons a0 us=>
 cases us with
 | nil=>cases h
 | cons a1 us=>
 cases us with
 | nil=>cases h
 | cons a2 us=>
 cases us with
 | nil=>exact ⟨a0,a1,a2,rfl⟩
 | cons _ _=>simp at h
theorem all_mk {l:PySem.W.OpenLaw}{w:World}{K:PySem.W.Frag}{h:Heap}{mg:Str→Option Value}{fa:Addr}(X:K.In h)(G:h.Ns mainGlobals mg)(hfa:mg "law" = some (.ref fa))
  {f0:Addr} {od0 an0:Option Addr} {sl0:Array (Option Value)} {oc0 kV0 dc0 pm0 cd0 ct0:Value} (a0:PySem.W.nsIn K mainGlobals "is_whole" = some (some (.ref f0))) (l0:K.lookup f0=some ⟨oc0,od0, .func (PySem.W.fnOf "is_whole" "is_whole" (aV (top 6)) (aT (top 6)) (aG (top 6)) .none kV0 dc0 pm0 an0 cd0 ct0),sl0⟩) (c0:PySem.W.codeIn K cd0 "is_whole" = true) (k0:PySem.W.keepIn K (.ref f0)=true)
  {f1:Addr} {od1 an1:Option Addr} {sl1:Array (Option Value)} {oc1 kV1 dc1 pm1 cd1 ct1:Value} (a1:PySem.W.nsIn K mainGlobals "are_wholes" = some (some (.ref f1))) (l1:K.lookup f1=some ⟨oc1,od1, .func (PySem.W.fnOf "are_wholes" "are_wholes" (aV (top 7)) (aT (top 7)) (aG (top 7)) .none kV1 dc1 pm1 an1 cd1 ct1),sl1⟩) (c1:PySem.W.codeIn K cd1 "are_wholes" = true) (k1:PySem.W.keepIn K (.ref f1)=true)
  {f2:Addr} {od2 an2:Option Addr} {sl2:Array (Option Value)} {oc2 kV2 dc2 pm2 cd2 ct2:Value} (a2:PySem.W.nsIn K mainGlobals "number_in" = some (some (.ref f2))) (l2:K.lookup f2=some ⟨oc2,od2, .func (PySem.W.fnOf "number_in" "number_in" (aV (top 8)) (aT (top 8)) (aG (top 8)) .none kV2 dc2 pm2 an2 cd2 ct2),sl2⟩) (c2:PySem.W.codeIn K cd2 "number_in" = true) (k2:PySem.W.keepIn K (.ref f2)=true)
  {f3:Addr} {od3 an3:Option Addr} {sl3:Array (Option Value)} {oc3 kV3 dc3 pm3 cd3 ct3:Value} (a3:PySem.W.nsIn K mainGlobals "is_table" = some (some (.ref f3))) (l3:K.lookup f3=some ⟨oc3,od3, .func (PySem.W.fnOf "is_table" "is_table" (aV (top 10)) (aT (top 10)) (aG (top 10)) .none kV3 dc3 pm3 an3 cd3 ct3),sl3⟩) (c3:PySem.W.codeIn K cd3 "is_table" = true) (k3:PySem.W.keepIn K (.ref f3)=true)
  {f4:Addr} {od4 an4:Option Addr} {sl4:Array (Option Value)} {oc4 kV4 dc4 pm4 cd4 ct4:Value} (a4:PySem.W.nsIn K mainGlobals "is_table_row" = some (some (.ref f4))) (l4:K.lookup f4=some ⟨oc4,od4, .func (PySem.W.fnOf "is_table_row" "is_table_row" (aV (top 11)) (aT (top 11)) (aG (top 11)) .none kV4 dc4 pm4 an4 cd4 ct4),sl4⟩) (c4:PySem.W.codeIn K cd4 "is_table_row" = true) (k4:PySem.W.keepIn K (.ref f4)=true)
  {f5:Addr} {od5 an5:Option Addr} {sl5:Array (Option Value)} {oc5 kV5 dc5 pm5 cd5 ct5:Value} (a5:PySem.W.nsIn K mainGlobals "show_table" = some (some (.ref f5))) (l5:K.lookup f5=some ⟨oc5,od5, .func (PySem.W.fnOf "show_table" "show_table" (aV (top 14)) (aT (top 14)) (aG (top 14)) .none kV5 dc5 pm5 an5 cd5 ct5),sl5⟩) (c5:PySem.W.codeIn K cd5 "show_table" = true) (k5:PySem.W.keepIn K (.ref f5)=true)
  {f6:Addr} {od6 an6:Option Addr} {sl6:Array (Option Value)} {oc6 kV6 dc6 pm6 cd6 ct6:Value} (a6:PySem.W.nsIn K mainGlobals "read_table" = some (some (.ref f6))) (l6:K.lookup f6=some ⟨oc6,od6, .func (PySem.W.fnOf "read_table" "read_table" (aV (top 15)) (aT (top 15)) (aG (top 15)) .none kV6 dc6 pm6 an6 cd6 ct6),sl6⟩) (c6:PySem.W.codeIn K cd6 "read_table" = true) (k6:PySem.W.keepIn K (.ref f6)=true)
  {f7:Addr} {od7 an7:Option Addr} {sl7:Array (Option Value)} {oc7 kV7 dc7 pm7 cd7 ct7:Value} (a7:PySem.W.nsIn K mainGlobals "may_come" = some (some (.ref f7))) (l7:K.lookup f7=some ⟨oc7,od7, .func (PySem.W.fnOf "may_come" "may_come" (aV (top 16)) (aT (top 16)) (aG (top 16)) .none kV7 dc7 pm7 an7 cd7 ct7),sl7⟩) (c7:PySem.W.codeIn K cd7 "may_come" = true) (k7:PySem.W.keepIn K (.ref f7)=true)
  {f8:Addr} {od8 an8:Option Addr} {sl8:Array (Option Value)} {oc8 kV8 dc8 pm8 cd8 ct8:Value} (a8:PySem.W.nsIn K mainGlobals "_law_gspread" = some (some (.ref f8))) (l8:K.lookup f8=some ⟨oc8,od8, .func (PySem.W.fnOf "_law_gspread" "_law_gspread" (aV (top 18)) (aT (top 18)) (aG (top 18)) .none kV8 dc8 pm8 an8 cd8 ct8),sl8⟩) (c8:PySem.W.codeIn K cd8 "_law_gspread" = true) (k8:PySem.W.keepIn K (.ref f8)=true)
  {f9:Addr} {od9 an9:Option Addr} {sl9:Array (Option Value)} {oc9 kV9 dc9 pm9 cd9 ct9:Value} (a9:PySem.W.nsIn K mainGlobals "_law_gdraw" = some (some (.ref f9))) (l9:K.lookup f9=some ⟨oc9,od9, .func (PySem.W.fnOf "_law_gdraw" "_law_gdraw" (aV (top 19)) (aT (top 19)) (aG (top 19)) .none kV9 dc9 pm9 an9 cd9 ct9),sl9⟩) (c9:PySem.W.codeIn K cd9 "_law_gdraw" = true) (k9:PySem.W.keepIn K (.ref f9)=true)
  {f10:Addr} {od10 an10:Option Addr} {sl10:Array (Option Value)} {oc10 kV10 dc10 pm10 cd10 ct10:Value} (a10:PySem.W.nsIn K mainGlobals "_law_glength" = some (some (.ref f10))) (l10:K.lookup f10=some ⟨oc10,od10, .func (PySem.W.fnOf "_law_glength" "_law_glength" (aV (top 20)) (aT (top 20)) (aG (top 20)) .none kV10 dc10 pm10 an10 cd10 ct10),sl10⟩) (c10:PySem.W.codeIn K cd10 "_law_glength" = true) (k10:PySem.W.keepIn K (.ref f10)=true)
  {f11:Addr} {od11 an11:Option Addr} {sl11:Array (Option Value)} {oc11 kV11 dc11 pm11 cd11 ct11:Value} (a11:PySem.W.nsIn K mainGlobals "_law_gany" = some (some (.ref f11))) (l11:K.lookup f11=some ⟨oc11,od11, .func (PySem.W.fnOf "_law_gany" "_law_gany" (aV (top 21)) (aT (top 21)) (aG (top 21)) .none kV11 dc11 pm11 an11 cd11 ct11),sl11⟩) (c11:PySem.W.codeIn K cd11 "_law_gany" = true) (k11:PySem.W.keepIn K (.ref f11)=true)
  {f12:Addr} {od12 an12:Option Addr} {sl12:Array (Option Value)} {oc12 kV12 dc12 pm12 cd12 ct12:Value} (a12:PySem.W.nsIn K mainGlobals "_law_gtext" = some (some (.ref f12))) (l12:K.lookup f12=some ⟨oc12,od12, .func (PySem.W.fnOf "_law_gtext" "_law_gtext" (aV (top 22)) (aT (top 22)) (aG (top 22)) .none kV12 dc12 pm12 an12 cd12 ct12),sl12⟩) (c12:PySem.W.codeIn K cd12 "_law_gtext" = true) (k12:PySem.W.keepIn K (.ref f12)=true)
  {f13:Addr} {od13 an13:Option Addr} {sl13:Array (Option Value)} {oc13 kV13 dc13 pm13 cd13 ct13:Value} (a13:PySem.W.nsIn K mainGlobals "_law_gright" = some (some (.ref f13))) (l13:K.lookup f13=some ⟨oc13,od13, .func (PySem.W.fnOf "_law_gright" "_law_gright" (aV (top 23)) (aT (top 23)) (aG (top 23)) .none kV13 dc13 pm13 an13 cd13 ct13),sl13⟩) (c13:PySem.W.codeIn K cd13 "_law_gright" = true) (k13:PySem.W.keepIn K (.ref f13)=true)
  {f14:Addr} {od14 an14:Option Addr} {sl14:Array (Option Value)} {oc14 kV14 dc14 pm14 cd14 ct14:Value} (a14:PySem.W.nsIn K mainGlobals "law" = some (some (.ref f14))) (l14:K.lookup f14=some ⟨oc14,od14, .func (PySem.W.fnOf "law" "law" (aV (top 24)) (aT (top 24)) (aG (top 24)) .none kV14 dc14 pm14 an14 cd14 ct14),sl14⟩) (c14:PySem.W.codeIn K cd14 "law" = true) (k14:PySem.W.keepIn K (.ref f14)=true)
  (z_len:PySem.W.nsIn K mainGlobals "len" = some none)
  (z_all:PySem.W.nsIn K mainGlobals "all" = some none)
  (z_min:PySem.W.nsIn K mainGlobals "min" = some none)
  (z_max:PySem.W.nsIn K mainGlobals "max" = some none)
  (z_sum:PySem.W.nsIn K mainGlobals "sum" = some none)
  (z_isinstance:PySem.W.nsIn K mainGlobals "isinstance" = some none)
  (z_sorted:PySem.W.nsIn K mainGlobals "sorted" = some none)
  (z_tuple:PySem.W.nsIn K mainGlobals "tuple" = some none)
  (z_list:PySem.W.nsIn K mainGlobals "list" = some none)
  (z_range:PySem.W.nsIn K mainGlobals "range" = some none)
  (z_int:PySem.W.nsIn K mainGlobals "int" = some none)
  (z_bool:PySem.W.nsIn K mainGlobals "bool" = some none)
  (z_zip:PySem.W.nsIn K mainGlobals "zip" = some none)
  (z_repr:PySem.W.nsIn K mainGlobals "repr" = some none)
  (z_enumerate:PySem.W.nsIn K mainGlobals "enumerate" = some none)
  (z_reversed:PySem.W.nsIn K mainGlobals "reversed" = some none)
  (z_str:PySem.W.nsIn K mainGlobals "str" = some none)
  (z_set:PySem.W.nsIn K mainGlobals "set" = some none)
  (z_abs:PySem.W.nsIn K mainGlobals "abs" = some none)
  {tk_MOST_PLACES:Tok} (g_MOST_PLACES:PySem.W.nsIn K mainGlobals "MOST_PLACES" = some (some (.int 8 tk_MOST_PLACES)))
  {tk_LONGEST_WAY:Tok} (g_LONGEST_WAY:PySem.W.nsIn K mainGlobals "LONGEST_WAY" = some (some (.int 1000000 tk_LONGEST_WAY)))
  {tk_ROW_END:Tok} (g_ROW_END:PySem.W.nsIn K mainGlobals "ROW_END" = some (some (.str "/" tk_ROW_END))) :
  ∃ fd:FuncData,(∀ (s:Shared) (v:Value),BindsTo s fd ⟨[v],[]⟩ [("script",v)])∧∀ base:Heap,K.In base→base.Ns mainGlobals mg→FnOk l.prog w K mg base CX0 7 fa fd ["script"] (pF K):=by
 have e:=hfa.symm.trans (PySem.W.mg_of X G a14)
 cases e
 have B:mB mg:=⟨⟨⟨⟨PySem.W.mg_none_of X G z_len,PySem.W.mg_none_of X G z_all,PySem.W.mg_none_of X G z_min,PySem.W.mg_none_of X G z_max,PySem.W.mg_none_of X G z_sum,PySem.W.mg_none_of X G z_isinstance,PySem.W.mg_none_of X G z_sorted,PySem.W.mg_none_of X G z_tuple,PySem.W.mg_none_of X G z_list,PySem.W.mg_none_of X G z_range,PySem.W.mg_none_of X G z_int,PySem.W.mg_none_of X G z_bool⟩,PySem.W.mg_none_of X G z_zip,PySem.W.mg_none_of X G z_repr,PySem.W.mg_none_of X G z_enumerate,PySem.W.mg_none_of X G z_reversed,PySem.W.mg_none_of X G z_str⟩,PySem.W.mg_none_of X G z_set⟩,PySem.W.mg_none_of X G z_abs⟩
 have G_MOST_PLACES:=PySem.W.mg_of X G g_MOST_PLACES
 have G_LONGEST_WAY:=PySem.W.mg_of X G g_LONGEST_WAY
 have G_ROW_END:=PySem.W.mg_of X G g_ROW_END
 have F0:=bY (st:=top 6) l0 c0 k0
 have b0:=F0.binds (ps:=["thing"]) fun _ _ _ _ _ _ us hl=>by obtain ⟨_,rfl⟩:=tK hl;rfl
 have F1:=bY (st:=top 7) l1 c1 k1
 have b1:=F1.binds (ps:=["thing"]) fun _ _ _ _ _ _ us hl=>by obtain ⟨_,rfl⟩:=tK hl;rfl
 have F2:=bY (st:=top 8) l2 c2 k2
 have b2:=F2.binds (ps:=["word","most"]) fun _ _ _ _ _ _ us hl=>by obtain ⟨_,_,rfl⟩:=wL hl;rfl
 have F3:=bY (st:=top 10) l3 c3 k3
 have b3:=F3.binds (ps:=["thing"]) fun _ _ _ _ _ _ us hl=>by obtain ⟨_,rfl⟩:=tK hl;rfl
 have F4:=bY (st:=top 11) l4 c4 k4
 have b4:=F4.binds (ps:=["thing","own","many"]) fun _ _ _ _ _ _ us hl=>by obtain ⟨_,_,_,rfl⟩:=zY hl;rfl
 have F5:=bY (st:=top 14) l5 c5 k5
 have b5:=F5.binds (ps:=["table"]) fun _ _ _ _ _ _ us hl=>by obtain ⟨_,rfl⟩:=tK hl;rfl
 have F6:=bY (st:=top 15) l6 c6 k6
 have b6:=F6.binds (ps:=["text"]) fun _ _ _ _ _ _ us hl=>by obtain ⟨_,rfl⟩:=tK hl;rfl
 have F7:=bY (st:=top 16) l7 c7 k7
 have b7:=F7.binds (ps:=["rows","word"]) fun _ _ _ _ _ _ us hl=>by obtain ⟨_,_,rfl⟩:=wL hl;rfl
 have F8:=bY (st:=top 18) l8 c8 k8
 have b8:=F8.binds (ps:=["cell","at"]) fun _ _ _ _ _ _ us hl=>by obtain ⟨_,_,rfl⟩:=wL hl;rfl
 have F9:=bY (st:=top 19) l9 c9 k9
 have b9:=F9.binds (ps:=["tape","many"]) fun _ _ _ _ _ _ us hl=>by obtain ⟨_,_,rfl⟩:=wL hl;rfl
 have F10:=bY (st:=top 20) l10 c10 k10
 have b10:=F10.binds (ps:=["tape"]) fun _ _ _ _ _ _ us hl=>by obtain ⟨_,rfl⟩:=tK hl;rfl
 have F11:=bY (st:=top 21) l11 c11 k11
 have b11:=F11.binds (ps:=["tape","many"]) fun _ _ _ _ _ _ us hl=>by obtain ⟨_,_,rfl⟩:=wL hl;rfl
 have F12:=bY (st:=top 22) l12 c12 k12
 have b12:=F12.binds (ps:=["table"]) fun _ _ _ _ _ _ us hl=>by obtain ⟨_,rfl⟩:=tK hl;rfl
 have F13:=bY (st:=top 23) l13 c13 k13
 have b13:=F13.binds (ps:=["table"]) fun _ _ _ _ _ _ us hl=>by obtain ⟨_,rfl⟩:=tK hl;rfl
 have F14:=bY (st:=top 24) l14 c14 k14
 refine ⟨PySem.W.fnOf "law" "law" (aV (top 24)) (aT (top 24)) (aG (top 24)) .none kV14 dc14 pm14 an14 cd14 ct14,fun s v => .of_eq rfl,fun base _ _=>?_⟩
 have fM:Def l.prog w K mg base "is_whole" 1 ["thing"] (spW K):=⟨f0,_,mN (P:=l.prog) (w:=w) (base:=base) F0 B   mJ (rF),PySem.W.mg_of X G a0,k0,b0⟩
 have eB:Def l.prog w K mg base "number_in" 1 ["word","most"] (sR):=⟨f2,_,kY (P:=l.prog) (w:=w) (base:=base) F2 B   kH (vU),PySem.W.mg_of X G a2,k2,b2⟩
 have dO:Def l.prog w K mg base "show_table" 1 ["table"] (fR K):=⟨f5,_,jX (P:=l.prog) (w:=w) (base:=base) F5 B   jT (pP),PySem.W.mg_of X G a5,k5,b5⟩
 have cN:Def l.prog w K mg base "_law_gspread" 1 ["cell","at"] (eZ):=⟨f8,_,hE (P:=l.prog) (w:=w) (base:=base) F8 B   gU (pI),PySem.W.mg_of X G a8,k8,b8⟩
 have dM:Def l.prog w K mg base "_law_gtext" 1 ["table"] (fR K):=⟨f12,_,jO (P:=l.prog) (w:=w) (base:=base) F12 B   jS (rN),PySem.W.mg_of X G a12,k12,b12⟩
 have dL:Def l.prog w K mg base "are_wholes" 2 ["thing"] (xR K):=⟨f1,_,kC (P:=l.prog) (w:=w) (base:=base) F1 B  fM kG (pV),PySem.W.mg_of X G a1,k1,b1⟩
 have fO:Def l.prog w K mg base "may_come" 2 ["rows","word"] (sA K):=⟨f7,_,mE (P:=l.prog) (w:=w) (base:=base) F7 B G_LONGEST_WAY G_MOST_PLACES G_ROW_END eB mD (wC),PySem.W.mg_of X G a7,k7,b7⟩
 have bC:Def l.prog w K mg base "_law_gdraw" 2 ["tape","many"] (hJ):=⟨f9,_,jZ (P:=l.prog) (w:=w) (base:=base) F9 B  cN jQ (uM),PySem.W.mg_of X G a9,k9,b9⟩
 have cM:Def l.prog w K mg base "is_table_row" 3 ["thing","own","many"] (rS K):=⟨f4,_,gZ (P:=l.prog) (w:=w) (base:=base) F4 B G_LONGEST_WAY dL hV (wU),PySem.W.mg_of X G a4,k4,b4⟩
 have cO:Def l.prog w K mg base "_law_glength" 3 ["tape"] (gK):=⟨f10,_,iD (P:=l.prog) (w:=w) (base:=base) F10 B  bC gP (qF),PySem.W.mg_of X G a10,k10,b10⟩
 have fN:Def l.prog w K mg base "is_table" 4 ["thing"] (mZ K):=⟨f3,_,mT (P:=l.prog) (w:=w) (base:=base) F3 B G_MOST_PLACES cM mQ (qL),PySem.W.mg_of X G a3,k3,b3⟩
 have eC:Def l.prog w K mg base "_law_gany" 4 ["tape","many"] (sT K):=⟨f11,_,kU (P:=l.prog) (w:=w) (base:=base) F11 B  cO lJ (vI),PySem.W.mg_of X G a11,k11,b11⟩
 have dN:Def l.prog w K mg base "read_table" 5 ["text"] (mY K):=⟨f6,_,jK (P:=l.prog) (w:=w) (base:=base) F6 B G_ROW_END fN fO jY (uS),PySem.W.mg_of X G a6,k6,b6⟩
 have bX:Def l.prog w K mg base "_law_gright" 6 ["table"] (xP K):=⟨f13,_,iM (P:=l.prog) (w:=w) (base:=base) F13 B  dM dN dO iN (xY),PySem.W.mg_of X G a13,k13,b13⟩
 exact wV (P:=l.prog) (w:=w) (base:=base) F14 B  eC bC bX vQ (wY)
theorem walk {l:PySem.W.OpenLaw}{q:Program}{loose:List Str}{XP:(Str→Option Value)→Heap→Prop}{YP:World→Heap→Prop}{d:DefRec}{K:Params→PySem.W.Frag}(hn:l.most=some 63)(hdf:d.params.defaults=[])
  (hY:∀ (w:World) (h:Heap),YP w h→(K w.params).In h)
  (F:∀ (w:World) (mg:Str→Option Value) (fa:Addr) (h:Heap),(K w.params).In h→h.Ns mainGlobals mg→mg d.name=some (.ref fa) →
   ∃ fd:FuncData,(∀ (s:Shared) (u:Value),BindsTo s fd ⟨[u],[]⟩ [("script",u)])∧∀ base:Heap,(K w.params).In base→base.Ns mainGlobals mg→FnOk l.prog w (K w.params) mg base CX0 7 fa fd ["script"] (pF (K w.params))) :
  PySem.W.WalkO q loose XP YP l.row.toRowW d [] (fun f vs=>PySem.call f vs):=
 L2.uR (n:=63) (k:=7) (x:="script") (CX:=fun _=>CX0) (sp:=fun w=>pF (K w.params)) hn (by decide) hdf ⟨rfl,by decide,by decide,rfl⟩ hY F (fun _ _ a ns hl _ hS=>⟨a,ns,rfl,hS,hl,fun _=>rfl⟩) fun _ _ _ _ _ z=>z
end K83
open PySem PySem.W PyProof.Rows
noncomputable def PySem.W.Fast.tw12947747593013162461 : Nat := 0
noncomputable def PySem.W.Fast.tw1321534930619149588 : Nat := 0
noncomputable def PySem.W.Fast.tw16939003887919579623 : Nat := 0
noncomputable def PySem.W.Fast.tw588097209858219471 : Nat := 0
set_option maxRecDepth 100000 in
set_option maxHeartbeats 0 in
theorem PySem.Challenge.cw_homeround_k83_tables_written_and_read_holds : PySem.Challenge.rw_homeround_k83_tables_written_and_read.Holds := by
  w_on; o_law; k_head; (case hw => w_witness2)
  k_fill
  refine K83.walk (l := PySem.Challenge.rw_homeround_k83_tables_written_and_read) rfl rfl (fun w h Y => PySem.W.kIn_of Y) ?F
  case F =>
    intro w mg fa h KX G hmg
    refine' K83.all_mk KX G hmg ?a0 ?l0 ?c0 ?k0 ?a1 ?l1 ?c1 ?k1 ?a2 ?l2 ?c2 ?k2 ?a3 ?l3 ?c3 ?k3 ?a4 ?l4 ?c4 ?k4 ?a5 ?l5 ?c5 ?k5 ?a6 ?l6 ?c6 ?k6 ?a7 ?l7 ?c7 ?k7 ?a8 ?l8 ?c8 ?k8 ?a9 ?l9 ?c9 ?k9 ?a10 ?l10 ?c10 ?k10 ?a11 ?l11 ?c11 ?k11 ?a12 ?l12 ?c12 ?k12 ?a13 ?l13 ?c13 ?k13 ?a14 ?l14 ?c14 ?k14 ?z_len ?z_all ?z_min ?z_max ?z_sum ?z_isinstance ?z_sorted ?z_tuple ?z_list ?z_range ?z_int ?z_bool ?z_zip ?z_repr ?z_enumerate ?z_reversed ?z_str ?z_set ?z_abs ?g_MOST_PLACES ?g_LONGEST_WAY ?g_ROW_END
    (case a0 => k_is)
    (case l0 => k_is)
    (case c0 => k_is)
    (case k0 => k_is)
    (case a1 => k_is)
    (case l1 => k_is)
    (case c1 => k_is)
    (case k1 => k_is)
    (case a2 => k_is)
    (case l2 => k_is)
    (case c2 => k_is)
    (case k2 => k_is)
    (case a3 => k_is)
    (case l3 => k_is)
    (case c3 => k_is)
    (case k3 => k_is)
    (case a4 => k_is)
    (case l4 => k_is)
    (case c4 => k_is)
    (case k4 => k_is)
    (case a5 => k_is)
    (case l5 => k_is)
    (case c5 => k_is)
    (case k5 => k_is)
    (case a6 => k_is)
    (case l6 => k_is)
    (case c6 => k_is)
    (case k6 => k_is)
    (case a7 => k_is)
    (case l7 => k_is)
    (case c7 => k_is)
    (case k7 => k_is)
    (case a8 => k_is)
    (case l8 => k_is)
    (case c8 => k_is)
    (case k8 => k_is)
    (case a9 => k_is)
    (case l9 => k_is)
    (case c9 => k_is)
    (case k9 => k_is)
    (case a10 => k_is)
    (case l10 => k_is)
    (case c10 => k_is)
    (case k10 => k_is)
    (case a11 => k_is)
    (case l11 => k_is)
    (case c11 => k_is)
    (case k11 => k_is)
    (case a12 => k_is)
    (case l12 => k_is)
    (case c12 => k_is)
    (case k12 => k_is)
    (case a13 => k_is)
    (case l13 => k_is)
    (case c13 => k_is)
    (case k13 => k_is)
    (case a14 => k_is)
    (case l14 => k_is)
    (case c14 => k_is)
    (case k14 => k_is)
    (case z_len => k_is)
    (case z_all => k_is)
    (case z_min => k_is)
    (case z_max => k_is)
    (case z_sum => k_is)
    (case z_isinstance => k_is)
    (case z_sorted => k_is)
    (case z_tuple => k_is)
    (case z_list => k_is)
    (case z_range => k_is)
    (case z_int => k_is)
    (case z_bool => k_is)
    (case z_zip => k_is)
    (case z_repr => k_is)
    (case z_enumerate => k_is)
    (case z_reversed => k_is)
    (case z_str => k_is)
    (case z_set => k_is)
    (case z_abs => k_is)
    (case g_MOST_PLACES => k_is)
    (case g_LONGEST_WAY => k_is)
    (case g_ROW_END => k_is)
